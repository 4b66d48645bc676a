/-
  The distance between two directions: the contract of distanceOf at two directions (package impl).
-/
import Derived.Test.YtlklcpnnaolbeaaDoorSep9
import Derived.Test.YtlklcpnnaolbeaaDoorTow
import Derived.Test.YtlklcpnnaolbeaaDoorSSep
import Derived.Handy
namespace Go.Proofs.YtlklcpnnaolbeaaDoor
open Go.RowKit
set_option linter.unusedVariables false

theorem dirT_inS (lon d : Int) (d0 : -90000 ≤ d) (d1 : d ≤ 90000) : dirT lon d = (dX lon d, dY lon d, sinI d) := by
  unfold dirT
  rw [if_pos ((inR_1 _ _ _).2 ⟨d0, d1⟩)]
  rfl
def sightB (a b : Int) : Value := .iface 54 (.agg #[.int .i64 a, .int .i64 b])
set_option maxHeartbeats 1000000 in
theorem distDD_any (a h p q : Int) (fa : fits a) (fp : fits p) (h0 : -90000 ≤ h) (h1 : h ≤ 90000) (q0 : -90000 ≤ q) (q1 : q ≤ 90000) (w : World) (hs : SinesOK w) :
    Calls Tryd.prog 34 #[sightB a h, sightB p q] w fun r w' => r = .returned (.int .i64 (sep9 a h p q)) ∧ Below w.heap.size w w' := by
  unfold sep9
  obtain ⟨d, hd⟩ := sepX_impl (dX a h) (dY a h) (sinI h) (dX p q) (dY p q) (sinI q) (inV_2 (dir_in _ _)) (inV_2 (dir_in _ _))
  have S := Lib.hid (fun w hs => dirTow_any a h fa w hs)
  have T := Lib.hid (fun w hs => dirTow_any p q fp w hs)
  rw [dirT_inS _ _ h0 h1] at S
  rw [dirT_inS _ _ q0 q1] at T
  have F := Lib.hid (fun w hs => implSep_any (dX a h) (dY a h) (sinI h) (dX p q) (dY p q) (sinI q) w hs)
  rw [hd] at F
  have E := Lib.hid hs
  clear hs hd fa fp
  simp only at S T
  generalize sepX (dX a h) (dY a h) (sinI h) (dX p q) (dY p q) (sinI q) = n at *
  generalize dX a h = x at *
  generalize dY a h = y at *
  generalize sinI h = z at *
  generalize dX p q = x' at *
  generalize dY p q = y' at *
  generalize sinI q = z' at *
  unfold sightB
  go_enter Tryd.func34, Tryd.ntmps34
  go_wp2_with fail
  refine (S.out _ E.out).mono ?_
  rintro r w1 ⟨rfl, hb⟩
  have H1 := Lib.hid hb
  clear hb S
  go_wp2_with fail
  refine (T.out _ (E.out.below H1.out)).mono ?_
  rintro r w2 ⟨rfl, hb⟩
  have H2 := Lib.hid (H1.out.trans (hb.mono H1.out.size))
  clear hb T
  go_wp2_with fail
  refine (F.out _ (E.out.below H2.out)).mono ?_
  rintro r w3 ⟨rfl, hb⟩
  have H3 := Lib.hid (H2.out.trans (hb.mono H2.out.size))
  clear hb F
  go_wp2_with fail
  exact bodyPost_ret (v := .int .i64 n) (by simp [results, Tryd.results34, go_sem]) rfl ⟨rfl, H3.out⟩
end Go.Proofs.YtlklcpnnaolbeaaDoor
