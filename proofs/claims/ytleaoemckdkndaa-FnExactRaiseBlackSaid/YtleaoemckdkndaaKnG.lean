/-
  CurveAt (both packages).
-/
import Derived.Test.YtleaoemckdkndaaKnF
namespace Go.Proofs.Ytleaoemckdkndaa.Kn
open Go.RowKit
set_option linter.unusedVariables false

set_option maxHeartbeats 400000 in
theorem areLevels1_any (a : Int) (b cap : Nat) (w : World) (hc : w.cell? ⟨b, 0, none⟩ = some (.int .i64 a)) :
    Calls Try.prog 81 #[.slice (some ⟨b, 0, none⟩) 1 cap] w fun e w' => e = .returned (.bool (inR 0 1000 [a])) ∧ w = w' := by
  have I := Lib.hid (within1 0 1000 a b cap w hc)
  clear hc
  go_enter Try.func81, Try.ntmps81
  go_wp2_with fail
  refine (I.out).mono ?_
  rintro e w' ⟨rfl, rfl⟩
  go_wp2_with fail
  go_ret
  exact ⟨rfl, rfl⟩
def curV (zs : List V) (x : Int) : Int × Int := if curveB zs = true then (if inR 0 1000 [x] = true then (levI zs x, 0) else (0, 2)) else (0, 1)
def NPost (r : Int × Int) (w : World) (e : Ending) (w' : World) : Prop := e = .returned (.tuple #[.int .i64 r.1, .int .i64 r.2]) ∧ Below w.heap.size w w'
set_option maxRecDepth 100000 in
set_option maxHeartbeats 2000000 in
theorem specAt_any (g cap : Nat) (zs : List V) (x : Int) (w : World) (hb : zs.length ≤ 1048577) (h1 : Row w g zs) :
    Calls Try.prog 31 #[.slice (some ⟨g, 0, none⟩) zs.length cap, .int .i64 x] w (NPost (curV zs x) w) := by
  have V := Lib.hid (l12Ok_any g cap zs w hb h1)
  have L := Lib.hid (fun w => l12Level_any x w)
  have AT := Lib.hid (fun (W : World) (hB : Below w.heap.size w W) hc => l12At_any g cap zs x W (h1.below hB) hc)
  clear h1
  unfold curV
  cases ho : curveB zs with
  | false =>
    rw [if_neg (by simp)]
    rw [ho] at V
    clear ho
    go_enter Try.func31, Try.ntmps31
    go_wp2_with fail
    refine V.out.mono ?_
    rintro e w1 ⟨rfl, hb1⟩
    go_wp2_with fail
    go_ret2
    exact ⟨rfl, hb1⟩
  | true =>
    rw [if_pos rfl]
    rw [ho] at V
    have AT2 := Lib.hid (fun (W : World) (hB : Below w.heap.size w W) => AT.out W hB (cur_of ho))
    clear AT ho
    cases hx : inR 0 1000 [x] with
    | false =>
      rw [hx] at L
      rw [if_neg (by simp)]
      clear hx
      go_enter Try.func31, Try.ntmps31
      go_wp2_with fail
      refine V.out.mono ?_
      rintro e w1 ⟨rfl, hb1⟩
      have HB1 := Lib.hid hb1
      clear hb1
      go_wp2_with fail
      refine (L.out _).mono ?_
      rintro e w' ⟨rfl, rfl⟩
      go_wp2_with fail
      go_ret2
      exact ⟨rfl, HB1.out⟩
    | true =>
      rw [hx] at L
      rw [if_pos rfl]
      clear hx
      generalize levI zs x = r at *
      go_enter Try.func31, Try.ntmps31
      go_wp2_with fail
      refine V.out.mono ?_
      rintro e w1 ⟨rfl, hb1⟩
      have HB1 := Lib.hid hb1
      clear hb1
      go_wp2_with fail
      refine (L.out _).mono ?_
      rintro e w' ⟨rfl, rfl⟩
      go_wp2_with fail
      refine (AT2.out _ HB1.out).mono ?_
      rintro e w2 ⟨rfl, m, rfl⟩
      go_wp2_with fail
      go_ret2
      exact ⟨rfl, bel_dK HB1.out _⟩
set_option maxRecDepth 100000 in
set_option maxHeartbeats 2000000 in
theorem implAt_any (g cap : Nat) (zs : List V) (x : Int) (w : World) (hb : zs.length ≤ 1048577) (h1 : Row w g zs) :
    Calls Try.prog 32 #[.slice (some ⟨g, 0, none⟩) zs.length cap, .int .i64 x] w (NPost (curV zs x) w) := by
  have V := Lib.hid (implCurve_any g cap zs w hb h1)
  have L := Lib.hid (fun b cap w hc => areLevels1_any x b cap w hc)
  have AT := Lib.hid (fun (W : World) (hB : Below w.heap.size w W) hc => levelAt_any g cap zs x W (h1.below hB) hc)
  clear h1
  unfold curV
  cases ho : curveB zs with
  | false =>
    rw [if_neg (by simp)]
    rw [ho] at V
    clear ho
    go_enter Try.func32, Try.ntmps32
    go_wp2_with fail
    refine V.out.mono ?_
    rintro e w1 ⟨rfl, hb1⟩
    go_wp2_with fail
    go_ret2
    exact ⟨rfl, hb1⟩
  | true =>
    rw [if_pos rfl]
    rw [ho] at V
    have AT2 := Lib.hid (fun (W : World) (hB : Below w.heap.size w W) => AT.out W hB (cur_of ho))
    clear AT ho
    cases hx : inR 0 1000 [x] with
    | false =>
      rw [hx] at L
      rw [if_neg (by simp)]
      clear hx
      go_enter Try.func32, Try.ntmps32
      go_wp2_with fail
      refine V.out.mono ?_
      rintro e w1 ⟨rfl, hb1⟩
      have HB1 := Lib.hid hb1
      clear hb1
      go_wp2_with fail
      refine (L.out _ _ _ (by simp)).mono ?_
      rintro e w' ⟨rfl, rfl⟩
      go_wp2_with fail
      go_ret2
      exact ⟨rfl, HB1.out.alloc HB1.out.size _⟩
    | true =>
      rw [hx] at L
      rw [if_pos rfl]
      clear hx
      generalize levI zs x = r at *
      go_enter Try.func32, Try.ntmps32
      go_wp2_with fail
      refine V.out.mono ?_
      rintro e w1 ⟨rfl, hb1⟩
      have HB1 := Lib.hid hb1
      clear hb1
      go_wp2_with fail
      refine (L.out _ _ _ (by simp)).mono ?_
      rintro e w' ⟨rfl, rfl⟩
      go_wp2_with fail
      have HB2 := Lib.hid (HB1.out.alloc HB1.out.size (Obj.cells #[.int .i64 x] 2))
      refine (AT2.out _ HB2.out).mono ?_
      rintro e w3 ⟨rfl, hb3⟩
      have HB3 := Lib.hid (HB2.out.trans (hb3.mono HB2.out.size))
      clear hb3
      go_wp2_with fail
      go_ret2
      exact ⟨rfl, HB3.out⟩
end Go.Proofs.Ytleaoemckdkndaa.Kn
