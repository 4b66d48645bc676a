/-
  The law FnExactSameTrack: for every input the call returns true, and each argument reads afterwards as it read before. No condition.
-/
import Derived.Test.YtdbocpcijkngpaaRows
import Derived.Test.YtdbocpcijkngpaaPost0
import Derived.Test.YtdbocpcijkngpaaTkE
import Derived.Test.YtdbocpcijkngpaaPost0
import Derived.WalkKit
import Derived.ProofKit
import Derived.OpenShut
import Derived.ChangeMaps5
import Derived.ChangeSlices
import Derived.Carry
import Derived.Lib.SmallJoins
namespace Go.Proofs.Ytdbocpcijkngpaa.fnExactSameTrack
open Go.ChangeShapes Go.WideShapes Go.ChangeAt Go.RowKit Go.ChangeMaps
set_option linter.unusedVariables false

theorem own : ownKnob Try.prog.godebug = none := by kernel_rfl

def Env (_w : World) : Prop := True

set_option maxRecDepth 100000 in
set_option maxHeartbeats 8000000 in
theorem walk (w : World) (s0 : ByteArray) (u0 : Value) (a0 : List Ky.V) (w0 : s0.size ≤ maxLen) (x0 : Ky.In w u0 a0) (n0 : a0.length ≤ 9223372036854775807) (s1 : ByteArray) (u1 : Value) (a1 : List Ky.V) (w1 : s1.size ≤ maxLen) (x1 : Ky.In w u1 a1) (n1 : a1.length ≤ 9223372036854775807) (henv : Env w) :
    Calls Try.prog 5 #[.agg #[.string s0, u0], .agg #[.string s1, u1]] w fun e w' => e = .returned (.bool true) ∧ Below w.heap.size w w' := by
  have WF0 := Lib.hid w0
  have Z0 := Lib.hid (fun l h0 h1 w h => Tk.sz_any s0 WF0.out (u := u0) (zs := a0) l h0 h1 (w := w) h n0)
  have X0 := Lib.hid x0
  have OK0 := Lib.hid x0.oks
  clear x0 w0
  have WF1 := Lib.hid w1
  have Z1 := Lib.hid (fun l h0 h1 w h => Tk.sz_any s1 WF1.out (u := u1) (zs := a1) l h0 h1 (w := w) h n1)
  have X1 := Lib.hid x1
  have OK1 := Lib.hid x1.oks
  clear x1 w1
  go_enter Try.func5, Try.ntmps5
  go_wp2_with fail
  have HB0 : Hid (Below w.heap.size w w) := Lib.hid (Below.refl _ _)
  obtain ⟨wb1, hwwb1⟩ : ∃ W, W = w.alloc (Obj.cells #[Value.string s0, u0] 24) := ⟨_, rfl⟩
  rw [← hwwb1]
  have hb : Below w.heap.size w wb1 := by rw [hwwb1]; exact (Below.refl _ _).alloc (Nat.le_refl _) _
  have hzwb1 : wb1.heap.size = w.heap.size + 1 := by rw [hwwb1]; simp
  have QNp0 := Lib.hid (Tk.TAt.new w (s0) (u0) 24)
  rw [← hwwb1] at QNp0
  clear hwwb1
  have hswb1 := hb.size
  have HB1 := Lib.hid (HB0.out.trans (hb.mono HB0.out.size))
  clear hb
  have Qp0_1 := QNp0
  clear QNp0
  have hlp0 := Qp0_1.out.lt
  obtain ⟨qp0_0, qp0_1⟩ := Qp0_1.out
  obtain ⟨wb2, hwwb2⟩ : ∃ W, W = wb1.alloc (Obj.cells #[Value.string s1, u1] 24) := ⟨_, rfl⟩
  rw [← hwwb2]
  have hb : Below wb1.heap.size wb1 wb2 := by rw [hwwb2]; exact (Below.refl _ _).alloc (Nat.le_refl _) _
  have hzwb2 : wb2.heap.size = wb1.heap.size + 1 := by rw [hwwb2]; simp
  have QNp1 := Lib.hid (Tk.TAt.new wb1 (s1) (u1) 24)
  rw [← hwwb2] at QNp1
  clear hwwb2
  rw [hzwb1] at QNp1
  clear qp0_0 qp0_1 hlp0
  have hswb2 := hb.size
  have HB2 := Lib.hid (HB1.out.trans (hb.mono HB1.out.size))
  have Qp0_2 := Lib.hid (Qp0_1.out.below hb)
  clear hb Qp0_1
  obtain ⟨qp0_0, qp0_1⟩ := Qp0_2.out
  have hlp0 := Qp0_2.out.lt
  have Qp1_2 := QNp1
  clear QNp1
  have hlp1 := Qp1_2.out.lt
  obtain ⟨qp1_0, qp1_1⟩ := Qp1_2.out
  refine (Z0.out 1048576 (by omega) (by omega) _ (X0.out.below HB2.out)).mono ?_
  rintro e w3 ⟨z0, rfl, hz00, hz10, hz2, hb⟩
  clear qp0_0 qp0_1 qp1_0 qp1_1 hlp0 hlp1
  have hsw3 := hb.size
  have HB3 := Lib.hid (HB2.out.trans (hb.mono HB2.out.size))
  have Qp0_3 := Lib.hid (Qp0_2.out.below hb)
  have Qp1_3 := Lib.hid (Qp1_2.out.below hb)
  clear hb Qp0_2 Qp1_2
  obtain ⟨qp0_0, qp0_1⟩ := Qp0_3.out
  have hlp0 := Qp0_3.out.lt
  obtain ⟨qp1_0, qp1_1⟩ := Qp1_3.out
  have hlp1 := Qp1_3.out.lt
  by_cases hz0 : z0 < 0
  · clear hz2
    go_wp2_with fail
    go_ret
    exact ⟨rfl, HB3.out⟩
  have hl0 := hz2 (by omega)
  clear hz2
  go_wp2_with fail
  refine (Z1.out z0 (by omega) (by omega) _ (X1.out.below HB3.out)).mono ?_
  rintro e w4 ⟨z1, rfl, hz01, hz11, hz2, hb⟩
  clear qp0_0 qp0_1 qp1_0 qp1_1 hlp0 hlp1
  have hsw4 := hb.size
  have HB4 := Lib.hid (HB3.out.trans (hb.mono HB3.out.size))
  have Qp0_4 := Lib.hid (Qp0_3.out.below hb)
  have Qp1_4 := Lib.hid (Qp1_3.out.below hb)
  clear hb Qp0_3 Qp1_3
  obtain ⟨qp0_0, qp0_1⟩ := Qp0_4.out
  have hlp0 := Qp0_4.out.lt
  obtain ⟨qp1_0, qp1_1⟩ := Qp1_4.out
  have hlp1 := Qp1_4.out.lt
  by_cases hz1 : z1 < 0
  · clear hz2
    go_wp2_with fail
    go_ret
    exact ⟨rfl, HB4.out⟩
  have hl1 := hz2 (by omega)
  clear hz2
  go_wp2_with fail
  have T0 := Lib.hid (fun w h => Tk.to_any s0 (u := u0) (zs := a0) (w := w) h hl0)
  have T1 := Lib.hid (fun w h => Tk.to_any s1 (u := u1) (zs := a1) (w := w) h hl1)
  have F1 := Lib.hid (fun W g0 h0 g1 h1 => Tk.specSame_any s0 s1 g0 g1 a0.length a1.length a0 a1 W (by omega) (by omega) h0 h1)
  have F2 := Lib.hid (fun W g0 h0 g1 h1 => Tk.implSame_any s0 s1 g0 g1 a0.length a1.length a0 a1 W (by omega) (by omega) h0 h1)
  generalize Tk.sameM s0 s1 a0 a1 = R at *
  have KB : Hid (w4.cell? ⟨w.heap.size, 0, none⟩ = some (.string s0) ∧ w4.cell? ⟨w.heap.size, 1, none⟩ = some (u0) ∧ w4.cell? ⟨w.heap.size + 1, 0, none⟩ = some (.string s1) ∧ w4.cell? ⟨w.heap.size + 1, 1, none⟩ = some (u1) ∧ Below w4.heap.size w4 w4) := Lib.hid ⟨qp0_0, qp0_1, qp1_0, qp1_1, Below.refl _ _⟩
  go_region_held3 (fun W => W.cell? ⟨w.heap.size, 0, none⟩ = some (.string s0) ∧ W.cell? ⟨w.heap.size, 1, none⟩ = some (u0) ∧ W.cell? ⟨w.heap.size + 1, 0, none⟩ = some (.string s1) ∧ W.cell? ⟨w.heap.size + 1, 1, none⟩ = some (u1) ∧ Below w4.heap.size w4 W) (first | (exact keepW4 KB.out (drewG w4)) | (exact keepW4 KB.out y3) | (exact keepW4 KB.out y2) | (exact keepW4 KB.out y1) | go_keep) ((first | (go_at_call 26; refine (F1.out _ _ hR1 _ hR2).mono ?_; rintro e ux3 ⟨rfl, hu3⟩; have y3 := y2.trans (hu3.mono y2.size)) | (go_at_call 18; refine (T1.out _ ((X1.out.below HB4.out).below y1)).mono ?_; rintro e ux2 ⟨gg2, rfl, hO2, hu2⟩; have y2 := y1.trans (hu2.mono y1.size); replace hR1 := hR1.below hu2; have hR2 := hO2.row) | (go_at_call 18; refine (T0.out _ ((X0.out.below HB4.out).below (drewG w4))).mono ?_; rintro e ux1 ⟨gg1, rfl, hO1, hu1⟩; have y1 := undrewG hu1; have hR1 := hO1.row)))
  rename_i held
  have hb := y3
  clear held KB hO1 hR1 hu1 hO2 hR2 hu2 hu3 y1 y2 y3
  obtain ⟨w5, hew5⟩ : ∃ W, W = ux3 := ⟨_, rfl⟩
  rw [← hew5] at hb ⊢
  clear hew5
  clear qp0_0 qp0_1 qp1_0 qp1_1 hlp0 hlp1
  have hsw5 := hb.size
  have HB5 := Lib.hid (HB4.out.trans (hb.mono HB4.out.size))
  have Qp0_5 := Lib.hid (Qp0_4.out.below hb)
  have Qp1_5 := Lib.hid (Qp1_4.out.below hb)
  clear hb Qp0_4 Qp1_4
  obtain ⟨qp0_0, qp0_1⟩ := Qp0_5.out
  have hlp0 := Qp0_5.out.lt
  obtain ⟨qp1_0, qp1_1⟩ := Qp1_5.out
  have hlp1 := Qp1_5.out.lt
  go_wp2_with fail
  refine (T0.out _ (X0.out.below HB5.out)).mono ?_
  rintro e w6 ⟨gx0, rfl, ho, hb⟩
  have HO := Lib.hid ho
  clear ho
  clear qp0_0 qp0_1 qp1_0 qp1_1 hlp0 hlp1
  have hsw6 := hb.size
  have HB6 := Lib.hid (HB5.out.trans (hb.mono HB5.out.size))
  have Qp0_6 := Lib.hid (Qp0_5.out.below hb)
  have Qp1_6 := Lib.hid (Qp1_5.out.below hb)
  clear hb Qp0_5 Qp1_5
  obtain ⟨qp0_0, qp0_1⟩ := Qp0_6.out
  have hlp0 := Qp0_6.out.lt
  obtain ⟨qp1_0, qp1_1⟩ := Qp1_6.out
  have hlp1 := Qp1_6.out.lt
  have Ox0_6 := HO
  clear HO
  go_wp2_with fail
  obtain ⟨wb7, hwwb7⟩ : ∃ W, W = w6.alloc (Obj.cells #[Value.string s0, .slice (some ⟨gx0, 0, none⟩) a0.length a0.length] 29) := ⟨_, rfl⟩
  rw [← hwwb7]
  have hb : Below w6.heap.size w6 wb7 := by rw [hwwb7]; exact (Below.refl _ _).alloc (Nat.le_refl _) _
  have hzwb7 : wb7.heap.size = w6.heap.size + 1 := by rw [hwwb7]; simp
  have QNx0 := Lib.hid (Tk.TAt.new w6 (s0) (.slice (some ⟨gx0, 0, none⟩) a0.length a0.length) 29)
  rw [← hwwb7] at QNx0
  clear hwwb7
  clear qp0_0 qp0_1 qp1_0 qp1_1 hlp0 hlp1
  have hswb7 := hb.size
  have HB7 := Lib.hid (HB6.out.trans (hb.mono HB6.out.size))
  have Qp0_7 := Lib.hid (Qp0_6.out.below hb)
  have Qp1_7 := Lib.hid (Qp1_6.out.below hb)
  have Ox0_7 := Lib.hid (Ox0_6.out.below hb)
  clear hb Qp0_6 Qp1_6 Ox0_6
  obtain ⟨qp0_0, qp0_1⟩ := Qp0_7.out
  have hlp0 := Qp0_7.out.lt
  obtain ⟨qp1_0, qp1_1⟩ := Qp1_7.out
  have hlp1 := Qp1_7.out.lt
  have Qx0_7 := QNx0
  clear QNx0
  have hlx0 := Qx0_7.out.lt
  obtain ⟨qx0_0, qx0_1⟩ := Qx0_7.out
  refine (T1.out _ (X1.out.below HB7.out)).mono ?_
  rintro e w8 ⟨gx1, rfl, ho, hb⟩
  have HO := Lib.hid ho
  clear ho
  clear qp0_0 qp0_1 qp1_0 qp1_1 qx0_0 qx0_1 hlp0 hlp1 hlx0
  have hsw8 := hb.size
  have HB8 := Lib.hid (HB7.out.trans (hb.mono HB7.out.size))
  have Qp0_8 := Lib.hid (Qp0_7.out.below hb)
  have Qp1_8 := Lib.hid (Qp1_7.out.below hb)
  have Qx0_8 := Lib.hid (Qx0_7.out.below hb)
  have Ox0_8 := Lib.hid (Ox0_7.out.below hb)
  clear hb Qp0_7 Qp1_7 Qx0_7 Ox0_7
  obtain ⟨qp0_0, qp0_1⟩ := Qp0_8.out
  have hlp0 := Qp0_8.out.lt
  obtain ⟨qp1_0, qp1_1⟩ := Qp1_8.out
  have hlp1 := Qp1_8.out.lt
  obtain ⟨qx0_0, qx0_1⟩ := Qx0_8.out
  have hlx0 := Qx0_8.out.lt
  have Ox1_8 := HO
  clear HO
  go_wp2_with fail
  obtain ⟨wb9, hwwb9⟩ : ∃ W, W = w8.alloc (Obj.cells #[Value.string s1, .slice (some ⟨gx1, 0, none⟩) a1.length a1.length] 29) := ⟨_, rfl⟩
  rw [← hwwb9]
  have hb : Below w8.heap.size w8 wb9 := by rw [hwwb9]; exact (Below.refl _ _).alloc (Nat.le_refl _) _
  have hzwb9 : wb9.heap.size = w8.heap.size + 1 := by rw [hwwb9]; simp
  have QNx1 := Lib.hid (Tk.TAt.new w8 (s1) (.slice (some ⟨gx1, 0, none⟩) a1.length a1.length) 29)
  rw [← hwwb9] at QNx1
  clear hwwb9
  clear qp0_0 qp0_1 qp1_0 qp1_1 qx0_0 qx0_1 hlp0 hlp1 hlx0
  have hswb9 := hb.size
  have HB9 := Lib.hid (HB8.out.trans (hb.mono HB8.out.size))
  have Qp0_9 := Lib.hid (Qp0_8.out.below hb)
  have Qp1_9 := Lib.hid (Qp1_8.out.below hb)
  have Qx0_9 := Lib.hid (Qx0_8.out.below hb)
  have Ox0_9 := Lib.hid (Ox0_8.out.below hb)
  have Ox1_9 := Lib.hid (Ox1_8.out.below hb)
  clear hb Qp0_8 Qp1_8 Qx0_8 Ox0_8 Ox1_8
  obtain ⟨qp0_0, qp0_1⟩ := Qp0_9.out
  have hlp0 := Qp0_9.out.lt
  obtain ⟨qp1_0, qp1_1⟩ := Qp1_9.out
  have hlp1 := Qp1_9.out.lt
  obtain ⟨qx0_0, qx0_1⟩ := Qx0_9.out
  have hlx0 := Qx0_9.out.lt
  have Qx1_9 := QNx1
  clear QNx1
  have hlx1 := Qx1_9.out.lt
  obtain ⟨qx1_0, qx1_1⟩ := Qx1_9.out
  refine (F2.out _ _ Ox0_9.out.row _ Ox1_9.out.row).mono ?_
  rintro e w10 ⟨rfl, hb⟩
  clear qp0_0 qp0_1 qp1_0 qp1_1 qx0_0 qx0_1 qx1_0 qx1_1 hlp0 hlp1 hlx0 hlx1
  have hsw10 := hb.size
  have HB10 := Lib.hid (HB9.out.trans (hb.mono HB9.out.size))
  have Qp0_10 := Lib.hid (Qp0_9.out.below hb)
  have Qp1_10 := Lib.hid (Qp1_9.out.below hb)
  have Qx0_10 := Lib.hid (Qx0_9.out.below hb)
  have Qx1_10 := Lib.hid (Qx1_9.out.below hb)
  have Ox0_10 := Lib.hid (Ox0_9.out.below hb)
  have Ox1_10 := Lib.hid (Ox1_9.out.below hb)
  clear hb Qp0_9 Qp1_9 Qx0_9 Qx1_9 Ox0_9 Ox1_9
  obtain ⟨qp0_0, qp0_1⟩ := Qp0_10.out
  have hlp0 := Qp0_10.out.lt
  obtain ⟨qp1_0, qp1_1⟩ := Qp1_10.out
  have hlp1 := Qp1_10.out.lt
  obtain ⟨qx0_0, qx0_1⟩ := Qx0_10.out
  have hlx0 := Qx0_10.out.lt
  obtain ⟨qx1_0, qx1_1⟩ := Qx1_10.out
  have hlx1 := Qx1_10.out.lt
  go_wp2_with fail
  have KB : Hid (w10.cell? ⟨w6.heap.size, 0, none⟩ = some (.string s0) ∧ w10.cell? ⟨w6.heap.size, 1, none⟩ = some (.slice (some ⟨gx0, 0, none⟩) a0.length a0.length) ∧ w10.cell? ⟨w.heap.size, 0, none⟩ = some (.string s0) ∧ w10.cell? ⟨w.heap.size, 1, none⟩ = some (u0) ∧ Below w10.heap.size w10 w10) := Lib.hid ⟨qx0_0, qx0_1, qp0_0, qp0_1, Below.refl _ _⟩
  go_region_held3 (fun W => W.cell? ⟨w6.heap.size, 0, none⟩ = some (.string s0) ∧ W.cell? ⟨w6.heap.size, 1, none⟩ = some (.slice (some ⟨gx0, 0, none⟩) a0.length a0.length) ∧ W.cell? ⟨w.heap.size, 0, none⟩ = some (.string s0) ∧ W.cell? ⟨w.heap.size, 1, none⟩ = some (u0) ∧ Below w10.heap.size w10 W) (first | (exact keepW4 KB.out (drewG w10)) | (exact keepW4 KB.out y2) | (exact keepW4 KB.out y1) | go_keep) ((first
    | (go_at_call 18; refine (T0.out _ ((X0.out.below HB10.out).below (drewG w10))).mono ?_; rintro e ux1 ⟨gy, rfl, hC, hu1⟩; have y1 := undrewG hu1)
    | (go_at_call 20; refine (Tk.eqO_any s0 hl0 (Ox0_10.out.below y1) hC).mono ?_; rintro e ux2 ⟨rfl, hu2⟩; have y2 := y1.trans (hu2.mono y1.size))))
  rename_i held
  have hb := y2
  clear held KB hC hu1 hu2 y1 y2
  obtain ⟨w12, hew12⟩ : ∃ W, W = ux2 := ⟨_, rfl⟩
  rw [← hew12] at hb ⊢
  clear hew12
  clear qp0_0 qp0_1 qp1_0 qp1_1 qx0_0 qx0_1 qx1_0 qx1_1 hlp0 hlp1 hlx0 hlx1
  have hsw12 := hb.size
  have HB11 := Lib.hid (HB10.out.trans (hb.mono HB10.out.size))
  have Qp0_11 := Lib.hid (Qp0_10.out.below hb)
  have Qp1_11 := Lib.hid (Qp1_10.out.below hb)
  have Qx0_11 := Lib.hid (Qx0_10.out.below hb)
  have Qx1_11 := Lib.hid (Qx1_10.out.below hb)
  have Ox0_11 := Lib.hid (Ox0_10.out.below hb)
  have Ox1_11 := Lib.hid (Ox1_10.out.below hb)
  clear hb Qp0_10 Qp1_10 Qx0_10 Qx1_10 Ox0_10 Ox1_10
  obtain ⟨qp0_0, qp0_1⟩ := Qp0_11.out
  have hlp0 := Qp0_11.out.lt
  obtain ⟨qp1_0, qp1_1⟩ := Qp1_11.out
  have hlp1 := Qp1_11.out.lt
  obtain ⟨qx0_0, qx0_1⟩ := Qx0_11.out
  have hlx0 := Qx0_11.out.lt
  obtain ⟨qx1_0, qx1_1⟩ := Qx1_11.out
  have hlx1 := Qx1_11.out.lt
  go_wp2_with fail
  have KB : Hid (w12.cell? ⟨w8.heap.size, 0, none⟩ = some (.string s1) ∧ w12.cell? ⟨w8.heap.size, 1, none⟩ = some (.slice (some ⟨gx1, 0, none⟩) a1.length a1.length) ∧ w12.cell? ⟨w.heap.size + 1, 0, none⟩ = some (.string s1) ∧ w12.cell? ⟨w.heap.size + 1, 1, none⟩ = some (u1) ∧ Below w12.heap.size w12 w12) := Lib.hid ⟨qx1_0, qx1_1, qp1_0, qp1_1, Below.refl _ _⟩
  go_region_held3 (fun W => W.cell? ⟨w8.heap.size, 0, none⟩ = some (.string s1) ∧ W.cell? ⟨w8.heap.size, 1, none⟩ = some (.slice (some ⟨gx1, 0, none⟩) a1.length a1.length) ∧ W.cell? ⟨w.heap.size + 1, 0, none⟩ = some (.string s1) ∧ W.cell? ⟨w.heap.size + 1, 1, none⟩ = some (u1) ∧ Below w12.heap.size w12 W) (first | (exact keepW4 KB.out (drewG w12)) | (exact keepW4 KB.out y2) | (exact keepW4 KB.out y1) | go_keep) ((first
    | (go_at_call 18; refine (T1.out _ ((X1.out.below HB11.out).below (drewG w12))).mono ?_; rintro e ux1 ⟨gy, rfl, hC, hu1⟩; have y1 := undrewG hu1)
    | (go_at_call 20; refine (Tk.eqO_any s1 hl1 (Ox1_11.out.below y1) hC).mono ?_; rintro e ux2 ⟨rfl, hu2⟩; have y2 := y1.trans (hu2.mono y1.size))))
  rename_i held
  have hb := y2
  clear held KB hC hu1 hu2 y1 y2
  obtain ⟨w13, hew13⟩ : ∃ W, W = ux2 := ⟨_, rfl⟩
  rw [← hew13] at hb ⊢
  clear hew13
  clear qp0_0 qp0_1 qp1_0 qp1_1 qx0_0 qx0_1 qx1_0 qx1_1 hlp0 hlp1 hlx0 hlx1
  have hsw13 := hb.size
  have HB12 := Lib.hid (HB11.out.trans (hb.mono HB11.out.size))
  have Qp0_12 := Lib.hid (Qp0_11.out.below hb)
  have Qp1_12 := Lib.hid (Qp1_11.out.below hb)
  have Qx0_12 := Lib.hid (Qx0_11.out.below hb)
  have Qx1_12 := Lib.hid (Qx1_11.out.below hb)
  have Ox0_12 := Lib.hid (Ox0_11.out.below hb)
  have Ox1_12 := Lib.hid (Ox1_11.out.below hb)
  clear hb Qp0_11 Qp1_11 Qx0_11 Qx1_11 Ox0_11 Ox1_11
  obtain ⟨qp0_0, qp0_1⟩ := Qp0_12.out
  have hlp0 := Qp0_12.out.lt
  obtain ⟨qp1_0, qp1_1⟩ := Qp1_12.out
  have hlp1 := Qp1_12.out.lt
  obtain ⟨qx0_0, qx0_1⟩ := Qx0_12.out
  have hlx0 := Qx0_12.out.lt
  obtain ⟨qx1_0, qx1_1⟩ := Qx1_12.out
  have hlx1 := Qx1_12.out.lt
  go_wp2_with fail
  go_ret
  exact ⟨rfl, HB12.out⟩

set_option maxRecDepth 100000 in
set_option maxHeartbeats 2000000 in
theorem contract (H : Type) (enc : TypeId × Value → H) (W : World) (base : Nat) (args : Array Value) (ds gs : List (DataW H)) (before : List MemPlace)
    (hval : ∀ (j : Nat) t v, Try.f5.params[j]? = some t → args[j]? = some v → Value.okWide Try.prog W .any base t v)
    (hW : DataW.Whole enc Try.prog Try.f5.params.toList Rows.fnExactSameTrackSpec.vars false W args.toList ds gs before) (henv : Env W) :
    Calls Try.prog 5 args W fun e W' => ∃ v, e = .returned v ∧ Rows.fnExactSameTrackSpec.post enc Try.prog Try.f5 false true false false W args v W' := by
  have hW' := hW
  obtain ⟨p, q, hA0, hV, rfl, hfz, hnd⟩ := hW
  have hA : DataW.TrodAll enc Try.prog W 0 (fun _ => true) true Try.f5.params.toList args.toList ds p := hA0
  rw [Try.params5] at hA hval
  obtain ⟨v0, vs0, d0, ds0, p0, q0, hargs0, rfl, rfl, h0, r0⟩ := trodAll_cons hA
  obtain ⟨v1, vs1, d1, ds1, p1, q1, hargs1, rfl, rfl, h1, r1⟩ := trodAll_cons r0
  obtain ⟨rfl, rfl, rfl⟩ := trodAll_nil r1
  obtain rfl : args = #[v0, v1] := by cases args; simp_all
  obtain ⟨rfl, rfl⟩ := trodVars_none hV
  have h0k := h0
  obtain ⟨s0, u0, a0, rfl, w0, x0, n0⟩ := Tk.track_open (hval 0 24 v0 rfl rfl) h0
  have h1k := h1
  obtain ⟨s1, u1, a1, rfl, w1, x1, n1⟩ := Tk.track_open (hval 1 24 v1 rfl rfl) h1
  clear hA0
  have hltp : ∀ x ∈ p0 ++ (p1 ++ []) ++ [], x.block < W.heap.size := fun x hx => hW'.lt x hx
  refine (walk W s0 u0 a0 w0 x0 n0 s1 u1 a1 w1 x1 n1 henv).mono fun e W' ⟨he, hg⟩ => ?_
  subst he
  exact ⟨_, rfl, post_of_below (pa := p0 ++ (p1 ++ [])) (pv := []) hW' (fun _ _ _ => (trodAll_cons_mk (shut_bool Try.underlying4 _) trodAll_mk0)) (fun sp hsp => (trodAll_cons_mk (WideElems.Trod_stays (by kernel_rfl) (by kernel_rfl) (of_decide_eq_true (by kernel_rfl)) h0k (fun x hx => hg.same (hltp x (by simp [hx]))) (fun x hx => hsp x (by simp [hx]))) (trodAll_cons_mk (WideElems.Trod_stays (by kernel_rfl) (by kernel_rfl) (of_decide_eq_true (by kernel_rfl)) h1k (fun x hx => hg.same (hltp x (by simp [hx]))) (fun x hx => hsp x (by simp [hx]))) trodAll_mk0))) (fun _ _ => rfl) rfl
    hg (ok_one (by kernel_rfl) rfl (okWide_bool_mk Try.underlying4 _))⟩

set_option maxRecDepth 100000 in
theorem lifted (os : Os) (started : os.Started) (H : Type) (enc : TypeId × Value → H) :
    ReturnsInHanded {} Try.checked os 5 .any (Rows.fnExactSameTrackSpec.pre6 enc Try.prog Try.f5 Rows.fnExactSameTrackRow.domain false) (Rows.fnExactSameTrackSpec.post enc Try.prog Try.f5 false true false false) := by
  refine returnsInHanded_of_change (C := Try.checked) own started (by kernel_rfl) Try.func5
    (ChangeSpec.witness6 (enc := enc) (C := Try.checked) false ⟨#[], #[.agg #[.string ByteArray.empty, .slice none 0 0], .agg #[.string ByteArray.empty, .slice none 0 0]], []⟩ 8 (by kernel_rfl) (by kernel_rfl) (by kernel_rfl) (by kernel_rfl)) ?_
  intro W base args ds gs before hval hW _ _
  exact contract H enc W base args ds gs before hval hW trivial

theorem over : Rows.fnExactSameTrackRow.holds Try.pinned (OpenSpec.ofChange Rows.fnExactSameTrackSpec) :=
  OpenClaim.holds_of_wide 5 Try.f5 rfl rfl rfl rfl rfl rfl rfl ⟨rfl, rfl, rfl, rfl, rfl⟩ rfl rfl rfl rfl rfl (by kernel_rfl) Try.func5 (by kernel_rfl)
    (of_decide_eq_true (by kernel_rfl)) (by unfold Func.isWrapper; first | (rw [if_pos (by decide +kernel)]; kernel_rfl) | (rw [if_neg (by decide +kernel)]; exact ⟨rfl, rfl⟩))
    (fun os started H enc _ => lifted os started H enc)

theorem proved : Rows.FnExactSameTrackSaid :=
  over
#print axioms proved
end Go.Proofs.Ytdbocpcijkngpaa.fnExactSameTrack
