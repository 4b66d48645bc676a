/-
  The law FnExactSlowTrack: for every input the call returns true, and each argument reads afterwards as it read before. No condition.
-/
import Derived.Test.YtdbocpcijkngpaaRows
import Derived.Test.YtdbocpcijkngpaaPost0
import Derived.Test.YtdbocpcijkngpaaTkH
import Derived.Test.YtdbocpcijkngpaaPost0
import Derived.Test.YtdbocpcijkngpaaAbs
import Derived.Test.YtdbocpcijkngpaaMnMx
import Derived.WalkKit
import Derived.ProofKit
import Derived.OpenShut
import Derived.ChangeMaps5
import Derived.ChangeSlices
import Derived.Carry
import Derived.Lib.SmallJoins
namespace Go.Proofs.Ytdbocpcijkngpaa.fnExactSlowTrack
open Go.ChangeShapes Go.WideShapes Go.ChangeAt Go.RowKit Go.ChangeMaps
set_option linter.unusedVariables false

theorem own : ownKnob Try.prog.godebug = none := by kernel_rfl

def Env (_w : World) : Prop := True

set_option maxRecDepth 100000 in
set_option maxHeartbeats 8000000 in
theorem walk (w : World) (s0 : ByteArray) (u0 : Value) (a0 : List Ky.V) (w0 : s0.size ≤ maxLen) (x0 : Ky.In w u0 a0) (n0 : a0.length ≤ 9223372036854775807) (a1 : Int) (w1 : (Lit.int .i64 a1).wf = true) (henv : Env w) :
    Calls Try.prog 14 #[.agg #[.string s0, u0], .int .i64 a1] w fun e w' => e = .returned (.bool true) ∧ Below w.heap.size w w' := by
  have WF0 := Lib.hid w0
  have Z0 := Lib.hid (fun l h0 h1 w h => Tk.sz_any s0 WF0.out (u := u0) (zs := a0) l h0 h1 (w := w) h n0)
  have X0 := Lib.hid x0
  have OK0 := Lib.hid x0.oks
  clear x0 w0
  go_enter Try.func14, Try.ntmps14
  go_wp2_with fail
  have HB0 : Hid (Below w.heap.size w w) := Lib.hid (Below.refl _ _)
  obtain ⟨wb1, hwwb1⟩ : ∃ W, W = w.alloc (Obj.cells #[Value.string s0, u0] 24) := ⟨_, rfl⟩
  rw [← hwwb1]
  have hb : Below w.heap.size w wb1 := by rw [hwwb1]; exact (Below.refl _ _).alloc (Nat.le_refl _) _
  have hzwb1 : wb1.heap.size = w.heap.size + 1 := by rw [hwwb1]; simp
  have QNp0 := Lib.hid (Tk.TAt.new w (s0) (u0) 24)
  rw [← hwwb1] at QNp0
  clear hwwb1
  have hswb1 := hb.size
  have HB1 := Lib.hid (HB0.out.trans (hb.mono HB0.out.size))
  clear hb
  have Qp0_1 := QNp0
  clear QNp0
  have hlp0 := Qp0_1.out.lt
  obtain ⟨qp0_0, qp0_1⟩ := Qp0_1.out
  refine (Z0.out 1048576 (by omega) (by omega) _ (X0.out.below HB1.out)).mono ?_
  rintro e w2 ⟨z0, rfl, hz00, hz10, hz2, hb⟩
  clear qp0_0 qp0_1 hlp0
  have hsw2 := hb.size
  have HB2 := Lib.hid (HB1.out.trans (hb.mono HB1.out.size))
  have Qp0_2 := Lib.hid (Qp0_1.out.below hb)
  clear hb Qp0_1
  obtain ⟨qp0_0, qp0_1⟩ := Qp0_2.out
  have hlp0 := Qp0_2.out.lt
  by_cases hz0 : z0 < 0
  · clear hz2
    go_wp2_with fail
    go_ret
    exact ⟨rfl, HB2.out⟩
  have hl0 := hz2 (by omega)
  clear hz2
  go_wp2_with fail
  have T0 := Lib.hid (fun w h => Tk.to_any s0 (u := u0) (zs := a0) (w := w) h hl0)
  have F1 := Lib.hid (fun W g0 h0 => Tk.specSlow_any s0 WF0.out g0 a0.length a0 a1 W (by omega) h0)
  have F2 := Lib.hid (fun W g0 h0 => Tk.implSlow_any s0 WF0.out g0 a0.length a0 a1 W (by omega) h0)
  have hrl : (Tk.slowV s0 a0 a1).2.1.length ≤ 1048576 := Nat.le_trans (Tk.slowV_len s0 a0 a1) (by omega)
  unfold Tk.TPost at F1 F2
  generalize Tk.slowV s0 a0 a1 = R at *
  obtain ⟨S, L, k⟩ := R
  simp only at F1 F2 hrl
  refine (T0.out _ (X0.out.below HB2.out)).mono ?_
  rintro e w3 ⟨ga0, rfl, ho, hb⟩
  have HO := Lib.hid ho
  clear ho
  clear qp0_0 qp0_1 hlp0
  have hsw3 := hb.size
  have HB3 := Lib.hid (HB2.out.trans (hb.mono HB2.out.size))
  have Qp0_3 := Lib.hid (Qp0_2.out.below hb)
  clear hb Qp0_2
  obtain ⟨qp0_0, qp0_1⟩ := Qp0_3.out
  have hlp0 := Qp0_3.out.lt
  have Oa0_3 := HO
  clear HO
  go_wp2_with fail
  refine (F1.out _ _ Oa0_3.out.row).mono ?_
  rintro e w4 ⟨uw0, rfl, ho0, hb⟩
  have HO0 := Lib.hid ho0
  clear ho0
  clear qp0_0 qp0_1 hlp0
  have hsw4 := hb.size
  have HB4 := Lib.hid (HB3.out.trans (hb.mono HB3.out.size))
  have Qp0_4 := Lib.hid (Qp0_3.out.below hb)
  have Oa0_4 := Lib.hid (Oa0_3.out.below hb)
  clear hb Qp0_3 Oa0_3
  obtain ⟨qp0_0, qp0_1⟩ := Qp0_4.out
  have hlp0 := Qp0_4.out.lt
  have Ow0_4 := HO0
  clear HO0
  obtain ⟨Aw0, Cw0, ew0⟩ := Ow0_4.out.len
  subst ew0
  go_wp2_with fail
  obtain ⟨wb5, hwwb5⟩ : ∃ W, W = w4.alloc (Obj.cells #[Value.string S, .slice Aw0 L.length Cw0] 29) := ⟨_, rfl⟩
  rw [← hwwb5]
  have hb : Below w4.heap.size w4 wb5 := by rw [hwwb5]; exact (Below.refl _ _).alloc (Nat.le_refl _) _
  have hzwb5 : wb5.heap.size = w4.heap.size + 1 := by rw [hwwb5]; simp
  have QNw0 := Lib.hid (Tk.TAt.new w4 (S) (.slice Aw0 L.length Cw0) 29)
  rw [← hwwb5] at QNw0
  clear hwwb5
  clear qp0_0 qp0_1 hlp0
  have hswb5 := hb.size
  have HB5 := Lib.hid (HB4.out.trans (hb.mono HB4.out.size))
  have Qp0_5 := Lib.hid (Qp0_4.out.below hb)
  have Oa0_5 := Lib.hid (Oa0_4.out.below hb)
  have Ow0_5 := Lib.hid (Ow0_4.out.below hb)
  clear hb Qp0_4 Oa0_4 Ow0_4
  obtain ⟨qp0_0, qp0_1⟩ := Qp0_5.out
  have hlp0 := Qp0_5.out.lt
  have Qw0_5 := QNw0
  clear QNw0
  have hlw0 := Qw0_5.out.lt
  obtain ⟨qw0_0, qw0_1⟩ := Qw0_5.out
  clear Oa0_5
  refine (T0.out _ (X0.out.below HB5.out)).mono ?_
  rintro e w6 ⟨gx0, rfl, ho, hb⟩
  have HO := Lib.hid ho
  clear ho
  clear qp0_0 qp0_1 qw0_0 qw0_1 hlp0 hlw0
  have hsw6 := hb.size
  have HB6 := Lib.hid (HB5.out.trans (hb.mono HB5.out.size))
  have Qp0_6 := Lib.hid (Qp0_5.out.below hb)
  have Qw0_6 := Lib.hid (Qw0_5.out.below hb)
  have Ow0_6 := Lib.hid (Ow0_5.out.below hb)
  clear hb Qp0_5 Qw0_5 Ow0_5
  obtain ⟨qp0_0, qp0_1⟩ := Qp0_6.out
  have hlp0 := Qp0_6.out.lt
  obtain ⟨qw0_0, qw0_1⟩ := Qw0_6.out
  have hlw0 := Qw0_6.out.lt
  have Ox0_6 := HO
  clear HO
  go_wp2_with fail
  obtain ⟨wb7, hwwb7⟩ : ∃ W, W = w6.alloc (Obj.cells #[Value.string s0, .slice (some ⟨gx0, 0, none⟩) a0.length a0.length] 29) := ⟨_, rfl⟩
  rw [← hwwb7]
  have hb : Below w6.heap.size w6 wb7 := by rw [hwwb7]; exact (Below.refl _ _).alloc (Nat.le_refl _) _
  have hzwb7 : wb7.heap.size = w6.heap.size + 1 := by rw [hwwb7]; simp
  have QNx0 := Lib.hid (Tk.TAt.new w6 (s0) (.slice (some ⟨gx0, 0, none⟩) a0.length a0.length) 29)
  rw [← hwwb7] at QNx0
  clear hwwb7
  clear qp0_0 qp0_1 qw0_0 qw0_1 hlp0 hlw0
  have hswb7 := hb.size
  have HB7 := Lib.hid (HB6.out.trans (hb.mono HB6.out.size))
  have Qp0_7 := Lib.hid (Qp0_6.out.below hb)
  have Qw0_7 := Lib.hid (Qw0_6.out.below hb)
  have Ow0_7 := Lib.hid (Ow0_6.out.below hb)
  have Ox0_7 := Lib.hid (Ox0_6.out.below hb)
  clear hb Qp0_6 Qw0_6 Ow0_6 Ox0_6
  obtain ⟨qp0_0, qp0_1⟩ := Qp0_7.out
  have hlp0 := Qp0_7.out.lt
  obtain ⟨qw0_0, qw0_1⟩ := Qw0_7.out
  have hlw0 := Qw0_7.out.lt
  have Qx0_7 := QNx0
  clear QNx0
  have hlx0 := Qx0_7.out.lt
  obtain ⟨qx0_0, qx0_1⟩ := Qx0_7.out
  refine (F2.out _ _ Ox0_7.out.row).mono ?_
  rintro e w8 ⟨ug0, rfl, ho0, hb⟩
  have HO0 := Lib.hid ho0
  clear ho0
  clear qp0_0 qp0_1 qw0_0 qw0_1 qx0_0 qx0_1 hlp0 hlw0 hlx0
  have hsw8 := hb.size
  have HB8 := Lib.hid (HB7.out.trans (hb.mono HB7.out.size))
  have Qp0_8 := Lib.hid (Qp0_7.out.below hb)
  have Qw0_8 := Lib.hid (Qw0_7.out.below hb)
  have Qx0_8 := Lib.hid (Qx0_7.out.below hb)
  have Ow0_8 := Lib.hid (Ow0_7.out.below hb)
  have Ox0_8 := Lib.hid (Ox0_7.out.below hb)
  clear hb Qp0_7 Qw0_7 Qx0_7 Ow0_7 Ox0_7
  obtain ⟨qp0_0, qp0_1⟩ := Qp0_8.out
  have hlp0 := Qp0_8.out.lt
  obtain ⟨qw0_0, qw0_1⟩ := Qw0_8.out
  have hlw0 := Qw0_8.out.lt
  obtain ⟨qx0_0, qx0_1⟩ := Qx0_8.out
  have hlx0 := Qx0_8.out.lt
  have Og0_8 := HO0
  clear HO0
  obtain ⟨Ag0, Cg0, eg0⟩ := Og0_8.out.len
  subst eg0
  go_wp2_with fail
  obtain ⟨wb9, hwwb9⟩ : ∃ W, W = w8.alloc (Obj.cells #[Value.string S, .slice Ag0 L.length Cg0] 29) := ⟨_, rfl⟩
  rw [← hwwb9]
  have hb : Below w8.heap.size w8 wb9 := by rw [hwwb9]; exact (Below.refl _ _).alloc (Nat.le_refl _) _
  have hzwb9 : wb9.heap.size = w8.heap.size + 1 := by rw [hwwb9]; simp
  have QNg0 := Lib.hid (Tk.TAt.new w8 (S) (.slice Ag0 L.length Cg0) 29)
  rw [← hwwb9] at QNg0
  clear hwwb9
  clear qp0_0 qp0_1 qw0_0 qw0_1 qx0_0 qx0_1 hlp0 hlw0 hlx0
  have hswb9 := hb.size
  have HB9 := Lib.hid (HB8.out.trans (hb.mono HB8.out.size))
  have Qp0_9 := Lib.hid (Qp0_8.out.below hb)
  have Qw0_9 := Lib.hid (Qw0_8.out.below hb)
  have Qx0_9 := Lib.hid (Qx0_8.out.below hb)
  have Ow0_9 := Lib.hid (Ow0_8.out.below hb)
  have Ox0_9 := Lib.hid (Ox0_8.out.below hb)
  have Og0_9 := Lib.hid (Og0_8.out.below hb)
  clear hb Qp0_8 Qw0_8 Qx0_8 Ow0_8 Ox0_8 Og0_8
  obtain ⟨qp0_0, qp0_1⟩ := Qp0_9.out
  have hlp0 := Qp0_9.out.lt
  obtain ⟨qw0_0, qw0_1⟩ := Qw0_9.out
  have hlw0 := Qw0_9.out.lt
  obtain ⟨qx0_0, qx0_1⟩ := Qx0_9.out
  have hlx0 := Qx0_9.out.lt
  have Qg0_9 := QNg0
  clear QNg0
  have hlg0 := Qg0_9.out.lt
  obtain ⟨qg0_0, qg0_1⟩ := Qg0_9.out
  refine (Tk.eqO_any (S) hrl Og0_9.out Ow0_9.out).mono ?_
  rintro e w10 ⟨rfl, hb⟩
  clear qp0_0 qp0_1 qw0_0 qw0_1 qx0_0 qx0_1 qg0_0 qg0_1 hlp0 hlw0 hlx0 hlg0
  have hsw10 := hb.size
  have HB10 := Lib.hid (HB9.out.trans (hb.mono HB9.out.size))
  have Qp0_10 := Lib.hid (Qp0_9.out.below hb)
  have Qw0_10 := Lib.hid (Qw0_9.out.below hb)
  have Qx0_10 := Lib.hid (Qx0_9.out.below hb)
  have Qg0_10 := Lib.hid (Qg0_9.out.below hb)
  have Ow0_10 := Lib.hid (Ow0_9.out.below hb)
  have Ox0_10 := Lib.hid (Ox0_9.out.below hb)
  have Og0_10 := Lib.hid (Og0_9.out.below hb)
  clear hb Qp0_9 Qw0_9 Qx0_9 Qg0_9 Ow0_9 Ox0_9 Og0_9
  obtain ⟨qp0_0, qp0_1⟩ := Qp0_10.out
  have hlp0 := Qp0_10.out.lt
  obtain ⟨qw0_0, qw0_1⟩ := Qw0_10.out
  have hlw0 := Qw0_10.out.lt
  obtain ⟨qx0_0, qx0_1⟩ := Qx0_10.out
  have hlx0 := Qx0_10.out.lt
  obtain ⟨qg0_0, qg0_1⟩ := Qg0_10.out
  have hlg0 := Qg0_10.out.lt
  go_wp2_with fail
  have KB : Hid (w10.cell? ⟨w6.heap.size, 0, none⟩ = some (.string s0) ∧ w10.cell? ⟨w6.heap.size, 1, none⟩ = some (.slice (some ⟨gx0, 0, none⟩) a0.length a0.length) ∧ w10.cell? ⟨w.heap.size, 0, none⟩ = some (.string s0) ∧ w10.cell? ⟨w.heap.size, 1, none⟩ = some (u0) ∧ Below w10.heap.size w10 w10) := Lib.hid ⟨qx0_0, qx0_1, qp0_0, qp0_1, Below.refl _ _⟩
  go_region_held3 (fun W => W.cell? ⟨w6.heap.size, 0, none⟩ = some (.string s0) ∧ W.cell? ⟨w6.heap.size, 1, none⟩ = some (.slice (some ⟨gx0, 0, none⟩) a0.length a0.length) ∧ W.cell? ⟨w.heap.size, 0, none⟩ = some (.string s0) ∧ W.cell? ⟨w.heap.size, 1, none⟩ = some (u0) ∧ Below w10.heap.size w10 W) (first | (exact keepW4 KB.out (drewG w10)) | (exact keepW4 KB.out y2) | (exact keepW4 KB.out y1) | go_keep) ((first
    | (go_at_call 18; refine (T0.out _ ((X0.out.below HB10.out).below (drewG w10))).mono ?_; rintro e ux1 ⟨gy, rfl, hC, hu1⟩; have y1 := undrewG hu1)
    | (go_at_call 20; refine (Tk.eqO_any s0 hl0 (Ox0_10.out.below y1) hC).mono ?_; rintro e ux2 ⟨rfl, hu2⟩; have y2 := y1.trans (hu2.mono y1.size))))
  rename_i held
  have hb := y2
  clear held KB hC hu1 hu2 y1 y2
  obtain ⟨w12, hew12⟩ : ∃ W, W = ux2 := ⟨_, rfl⟩
  rw [← hew12] at hb ⊢
  clear hew12
  clear qp0_0 qp0_1 qw0_0 qw0_1 qx0_0 qx0_1 qg0_0 qg0_1 hlp0 hlw0 hlx0 hlg0
  have hsw12 := hb.size
  have HB11 := Lib.hid (HB10.out.trans (hb.mono HB10.out.size))
  have Qp0_11 := Lib.hid (Qp0_10.out.below hb)
  have Qw0_11 := Lib.hid (Qw0_10.out.below hb)
  have Qx0_11 := Lib.hid (Qx0_10.out.below hb)
  have Qg0_11 := Lib.hid (Qg0_10.out.below hb)
  have Ow0_11 := Lib.hid (Ow0_10.out.below hb)
  have Ox0_11 := Lib.hid (Ox0_10.out.below hb)
  have Og0_11 := Lib.hid (Og0_10.out.below hb)
  clear hb Qp0_10 Qw0_10 Qx0_10 Qg0_10 Ow0_10 Ox0_10 Og0_10
  obtain ⟨qp0_0, qp0_1⟩ := Qp0_11.out
  have hlp0 := Qp0_11.out.lt
  obtain ⟨qw0_0, qw0_1⟩ := Qw0_11.out
  have hlw0 := Qw0_11.out.lt
  obtain ⟨qx0_0, qx0_1⟩ := Qx0_11.out
  have hlx0 := Qx0_11.out.lt
  obtain ⟨qg0_0, qg0_1⟩ := Qg0_11.out
  have hlg0 := Qg0_11.out.lt
  go_wp2_with fail
  refine (Tk.markO_int s0 _ (1) (by simp) (by omega) (by omega) (by omega) Ox0_11.out (by omega)).mono ?_
  rintro e w13 ⟨rfl, ho, hm⟩
  clear qp0_0 qp0_1 qw0_0 qw0_1 qx0_0 qx0_1 qg0_0 qg0_1 hlp0 hlw0 hlx0 hlg0
  have hsw13 := hm.size
  have HB12 := Lib.hid (HB11.out.trans (hm.below (by omega) (by omega)))
  have Qp0_12 := Lib.hid (Qp0_11.out.mod hm (by omega))
  have Qw0_12 := Lib.hid (Qw0_11.out.mod hm (by omega))
  have Qx0_12 := Lib.hid (Qx0_11.out.mod hm (by omega))
  have Qg0_12 := Lib.hid (Qg0_11.out.mod hm (by omega))
  have Ow0_12 := Lib.hid (Ow0_11.out.mod hm (by omega))
  have Ox0_12 := Lib.hid ho
  have Og0_12 := Lib.hid (Og0_11.out.mod hm (by omega))
  clear hm ho Qp0_11 Qw0_11 Qx0_11 Qg0_11 Ow0_11 Ox0_11 Og0_11
  obtain ⟨qp0_0, qp0_1⟩ := Qp0_12.out
  have hlp0 := Qp0_12.out.lt
  obtain ⟨qw0_0, qw0_1⟩ := Qw0_12.out
  have hlw0 := Qw0_12.out.lt
  obtain ⟨qx0_0, qx0_1⟩ := Qx0_12.out
  have hlx0 := Qx0_12.out.lt
  obtain ⟨qg0_0, qg0_1⟩ := Qg0_12.out
  have hlg0 := Qg0_12.out.lt
  go_wp2_with fail
  refine (Tk.eqO_any (S) hrl Og0_12.out Ow0_12.out).mono ?_
  rintro e w14 ⟨rfl, hb⟩
  clear qp0_0 qp0_1 qw0_0 qw0_1 qx0_0 qx0_1 qg0_0 qg0_1 hlp0 hlw0 hlx0 hlg0
  have hsw14 := hb.size
  have HB13 := Lib.hid (HB12.out.trans (hb.mono HB12.out.size))
  have Qp0_13 := Lib.hid (Qp0_12.out.below hb)
  have Qw0_13 := Lib.hid (Qw0_12.out.below hb)
  have Qx0_13 := Lib.hid (Qx0_12.out.below hb)
  have Qg0_13 := Lib.hid (Qg0_12.out.below hb)
  have Ow0_13 := Lib.hid (Ow0_12.out.below hb)
  have Ox0_13 := Lib.hid (Ox0_12.out.below hb)
  have Og0_13 := Lib.hid (Og0_12.out.below hb)
  clear hb Qp0_12 Qw0_12 Qx0_12 Qg0_12 Ow0_12 Ox0_12 Og0_12
  obtain ⟨qp0_0, qp0_1⟩ := Qp0_13.out
  have hlp0 := Qp0_13.out.lt
  obtain ⟨qw0_0, qw0_1⟩ := Qw0_13.out
  have hlw0 := Qw0_13.out.lt
  obtain ⟨qx0_0, qx0_1⟩ := Qx0_13.out
  have hlx0 := Qx0_13.out.lt
  obtain ⟨qg0_0, qg0_1⟩ := Qg0_13.out
  have hlg0 := Qg0_13.out.lt
  go_wp2_with fail
  refine (Tk.markO_int (S) _ (1) (by simp) (by omega) (by omega) (by omega) Og0_13.out (by omega)).mono ?_
  rintro e w16 ⟨rfl, ho, hm⟩
  clear qp0_0 qp0_1 qw0_0 qw0_1 qx0_0 qx0_1 qg0_0 qg0_1 hlp0 hlw0 hlx0 hlg0
  have hsw16 := hm.size
  have HB14 := Lib.hid (HB13.out.trans (hm.below (by omega) (by omega)))
  have Qp0_14 := Lib.hid (Qp0_13.out.mod hm (by omega))
  have Qw0_14 := Lib.hid (Qw0_13.out.mod hm (by omega))
  have Qx0_14 := Lib.hid (Qx0_13.out.mod hm (by omega))
  have Qg0_14 := Lib.hid (Qg0_13.out.mod hm (by omega))
  have Ow0_14 := Lib.hid (Ow0_13.out.mod hm (by omega))
  have Ox0_14 := Lib.hid (Ox0_13.out.mod hm (by omega))
  have Og0_14 := Lib.hid ho
  clear hm ho Qp0_13 Qw0_13 Qx0_13 Qg0_13 Ow0_13 Ox0_13 Og0_13
  obtain ⟨qp0_0, qp0_1⟩ := Qp0_14.out
  have hlp0 := Qp0_14.out.lt
  obtain ⟨qw0_0, qw0_1⟩ := Qw0_14.out
  have hlw0 := Qw0_14.out.lt
  obtain ⟨qx0_0, qx0_1⟩ := Qx0_14.out
  have hlx0 := Qx0_14.out.lt
  obtain ⟨qg0_0, qg0_1⟩ := Qg0_14.out
  have hlg0 := Qg0_14.out.lt
  go_wp2_with fail
  refine (Tk.heldO_int (S) _ (1) (by simp) (by omega) (by omega) (by omega) Og0_14.out).mono ?_
  rintro e w17 ⟨rfl, hb⟩
  clear qp0_0 qp0_1 qw0_0 qw0_1 qx0_0 qx0_1 qg0_0 qg0_1 hlp0 hlw0 hlx0 hlg0
  have hsw17 := hb.size
  have HB15 := Lib.hid (HB14.out.trans (hb.mono HB14.out.size))
  have Qp0_15 := Lib.hid (Qp0_14.out.below hb)
  have Qw0_15 := Lib.hid (Qw0_14.out.below hb)
  have Qx0_15 := Lib.hid (Qx0_14.out.below hb)
  have Qg0_15 := Lib.hid (Qg0_14.out.below hb)
  have Ow0_15 := Lib.hid (Ow0_14.out.below hb)
  have Ox0_15 := Lib.hid (Ox0_14.out.below hb)
  have Og0_15 := Lib.hid (Og0_14.out.below hb)
  clear hb Qp0_14 Qw0_14 Qx0_14 Qg0_14 Ow0_14 Ox0_14 Og0_14
  obtain ⟨qp0_0, qp0_1⟩ := Qp0_15.out
  have hlp0 := Qp0_15.out.lt
  obtain ⟨qw0_0, qw0_1⟩ := Qw0_15.out
  have hlw0 := Qw0_15.out.lt
  obtain ⟨qx0_0, qx0_1⟩ := Qx0_15.out
  have hlx0 := Qx0_15.out.lt
  obtain ⟨qg0_0, qg0_1⟩ := Qg0_15.out
  have hlg0 := Qg0_15.out.lt
  go_wp2_with fail
  refine (T0.out _ (X0.out.below HB15.out)).mono ?_
  rintro e w18 ⟨gb0, rfl, ho, hb⟩
  have HO := Lib.hid ho
  clear ho
  clear qp0_0 qp0_1 qw0_0 qw0_1 qx0_0 qx0_1 qg0_0 qg0_1 hlp0 hlw0 hlx0 hlg0
  have hsw18 := hb.size
  have HB16 := Lib.hid (HB15.out.trans (hb.mono HB15.out.size))
  have Qp0_16 := Lib.hid (Qp0_15.out.below hb)
  have Qw0_16 := Lib.hid (Qw0_15.out.below hb)
  have Qx0_16 := Lib.hid (Qx0_15.out.below hb)
  have Qg0_16 := Lib.hid (Qg0_15.out.below hb)
  have Ow0_16 := Lib.hid (Ow0_15.out.below hb)
  have Ox0_16 := Lib.hid (Ox0_15.out.below hb)
  have Og0_16 := Lib.hid (Og0_15.out.below hb)
  clear hb Qp0_15 Qw0_15 Qx0_15 Qg0_15 Ow0_15 Ox0_15 Og0_15
  obtain ⟨qp0_0, qp0_1⟩ := Qp0_16.out
  have hlp0 := Qp0_16.out.lt
  obtain ⟨qw0_0, qw0_1⟩ := Qw0_16.out
  have hlw0 := Qw0_16.out.lt
  obtain ⟨qx0_0, qx0_1⟩ := Qx0_16.out
  have hlx0 := Qx0_16.out.lt
  obtain ⟨qg0_0, qg0_1⟩ := Qg0_16.out
  have hlg0 := Qg0_16.out.lt
  have Ob0_16 := HO
  clear HO
  go_wp2_with fail
  refine (F2.out _ _ Ob0_16.out.row).mono ?_
  rintro e w19 ⟨uh0, rfl, ho0, hb⟩
  have HO0 := Lib.hid ho0
  clear ho0
  clear qp0_0 qp0_1 qw0_0 qw0_1 qx0_0 qx0_1 qg0_0 qg0_1 hlp0 hlw0 hlx0 hlg0
  have hsw19 := hb.size
  have HB17 := Lib.hid (HB16.out.trans (hb.mono HB16.out.size))
  have Qp0_17 := Lib.hid (Qp0_16.out.below hb)
  have Qw0_17 := Lib.hid (Qw0_16.out.below hb)
  have Qx0_17 := Lib.hid (Qx0_16.out.below hb)
  have Qg0_17 := Lib.hid (Qg0_16.out.below hb)
  have Ow0_17 := Lib.hid (Ow0_16.out.below hb)
  have Ox0_17 := Lib.hid (Ox0_16.out.below hb)
  have Og0_17 := Lib.hid (Og0_16.out.below hb)
  have Ob0_17 := Lib.hid (Ob0_16.out.below hb)
  clear hb Qp0_16 Qw0_16 Qx0_16 Qg0_16 Ow0_16 Ox0_16 Og0_16 Ob0_16
  obtain ⟨qp0_0, qp0_1⟩ := Qp0_17.out
  have hlp0 := Qp0_17.out.lt
  obtain ⟨qw0_0, qw0_1⟩ := Qw0_17.out
  have hlw0 := Qw0_17.out.lt
  obtain ⟨qx0_0, qx0_1⟩ := Qx0_17.out
  have hlx0 := Qx0_17.out.lt
  obtain ⟨qg0_0, qg0_1⟩ := Qg0_17.out
  have hlg0 := Qg0_17.out.lt
  have Oh0_17 := HO0
  clear HO0
  obtain ⟨Ah0, Ch0, eh0⟩ := Oh0_17.out.len
  subst eh0
  go_wp2_with fail
  obtain ⟨wb20, hwwb20⟩ : ∃ W, W = w19.alloc (Obj.cells #[Value.string S, .slice Ah0 L.length Ch0] 29) := ⟨_, rfl⟩
  rw [← hwwb20]
  have hb : Below w19.heap.size w19 wb20 := by rw [hwwb20]; exact (Below.refl _ _).alloc (Nat.le_refl _) _
  have hzwb20 : wb20.heap.size = w19.heap.size + 1 := by rw [hwwb20]; simp
  have QNh0 := Lib.hid (Tk.TAt.new w19 (S) (.slice Ah0 L.length Ch0) 29)
  rw [← hwwb20] at QNh0
  clear hwwb20
  clear qp0_0 qp0_1 qw0_0 qw0_1 qx0_0 qx0_1 qg0_0 qg0_1 hlp0 hlw0 hlx0 hlg0
  have hswb20 := hb.size
  have HB18 := Lib.hid (HB17.out.trans (hb.mono HB17.out.size))
  have Qp0_18 := Lib.hid (Qp0_17.out.below hb)
  have Qw0_18 := Lib.hid (Qw0_17.out.below hb)
  have Qx0_18 := Lib.hid (Qx0_17.out.below hb)
  have Qg0_18 := Lib.hid (Qg0_17.out.below hb)
  have Ow0_18 := Lib.hid (Ow0_17.out.below hb)
  have Ox0_18 := Lib.hid (Ox0_17.out.below hb)
  have Og0_18 := Lib.hid (Og0_17.out.below hb)
  have Ob0_18 := Lib.hid (Ob0_17.out.below hb)
  have Oh0_18 := Lib.hid (Oh0_17.out.below hb)
  clear hb Qp0_17 Qw0_17 Qx0_17 Qg0_17 Ow0_17 Ox0_17 Og0_17 Ob0_17 Oh0_17
  obtain ⟨qp0_0, qp0_1⟩ := Qp0_18.out
  have hlp0 := Qp0_18.out.lt
  obtain ⟨qw0_0, qw0_1⟩ := Qw0_18.out
  have hlw0 := Qw0_18.out.lt
  obtain ⟨qx0_0, qx0_1⟩ := Qx0_18.out
  have hlx0 := Qx0_18.out.lt
  obtain ⟨qg0_0, qg0_1⟩ := Qg0_18.out
  have hlg0 := Qg0_18.out.lt
  have Qh0_18 := QNh0
  clear QNh0
  have hlh0 := Qh0_18.out.lt
  obtain ⟨qh0_0, qh0_1⟩ := Qh0_18.out
  refine (Tk.eqO_any (S) hrl Oh0_18.out Ow0_18.out).mono ?_
  rintro e w21 ⟨rfl, hb⟩
  clear qp0_0 qp0_1 qw0_0 qw0_1 qx0_0 qx0_1 qg0_0 qg0_1 qh0_0 qh0_1 hlp0 hlw0 hlx0 hlg0 hlh0
  have hsw21 := hb.size
  have HB19 := Lib.hid (HB18.out.trans (hb.mono HB18.out.size))
  have Qp0_19 := Lib.hid (Qp0_18.out.below hb)
  have Qw0_19 := Lib.hid (Qw0_18.out.below hb)
  have Qx0_19 := Lib.hid (Qx0_18.out.below hb)
  have Qg0_19 := Lib.hid (Qg0_18.out.below hb)
  have Qh0_19 := Lib.hid (Qh0_18.out.below hb)
  have Ow0_19 := Lib.hid (Ow0_18.out.below hb)
  have Ox0_19 := Lib.hid (Ox0_18.out.below hb)
  have Og0_19 := Lib.hid (Og0_18.out.below hb)
  have Ob0_19 := Lib.hid (Ob0_18.out.below hb)
  have Oh0_19 := Lib.hid (Oh0_18.out.below hb)
  clear hb Qp0_18 Qw0_18 Qx0_18 Qg0_18 Qh0_18 Ow0_18 Ox0_18 Og0_18 Ob0_18 Oh0_18
  obtain ⟨qp0_0, qp0_1⟩ := Qp0_19.out
  have hlp0 := Qp0_19.out.lt
  obtain ⟨qw0_0, qw0_1⟩ := Qw0_19.out
  have hlw0 := Qw0_19.out.lt
  obtain ⟨qx0_0, qx0_1⟩ := Qx0_19.out
  have hlx0 := Qx0_19.out.lt
  obtain ⟨qg0_0, qg0_1⟩ := Qg0_19.out
  have hlg0 := Qg0_19.out.lt
  obtain ⟨qh0_0, qh0_1⟩ := Qh0_19.out
  have hlh0 := Qh0_19.out.lt
  go_wp2_with fail
  refine (Tk.heldO_int (S) _ (1) (by simp) (by omega) (by omega) (by omega) Og0_19.out).mono ?_
  rintro e w23 ⟨rfl, hb⟩
  clear qp0_0 qp0_1 qw0_0 qw0_1 qx0_0 qx0_1 qg0_0 qg0_1 qh0_0 qh0_1 hlp0 hlw0 hlx0 hlg0 hlh0
  have hsw23 := hb.size
  have HB20 := Lib.hid (HB19.out.trans (hb.mono HB19.out.size))
  have Qp0_20 := Lib.hid (Qp0_19.out.below hb)
  have Qw0_20 := Lib.hid (Qw0_19.out.below hb)
  have Qx0_20 := Lib.hid (Qx0_19.out.below hb)
  have Qg0_20 := Lib.hid (Qg0_19.out.below hb)
  have Qh0_20 := Lib.hid (Qh0_19.out.below hb)
  have Ow0_20 := Lib.hid (Ow0_19.out.below hb)
  have Ox0_20 := Lib.hid (Ox0_19.out.below hb)
  have Og0_20 := Lib.hid (Og0_19.out.below hb)
  have Ob0_20 := Lib.hid (Ob0_19.out.below hb)
  have Oh0_20 := Lib.hid (Oh0_19.out.below hb)
  clear hb Qp0_19 Qw0_19 Qx0_19 Qg0_19 Qh0_19 Ow0_19 Ox0_19 Og0_19 Ob0_19 Oh0_19
  obtain ⟨qp0_0, qp0_1⟩ := Qp0_20.out
  have hlp0 := Qp0_20.out.lt
  obtain ⟨qw0_0, qw0_1⟩ := Qw0_20.out
  have hlw0 := Qw0_20.out.lt
  obtain ⟨qx0_0, qx0_1⟩ := Qx0_20.out
  have hlx0 := Qx0_20.out.lt
  obtain ⟨qg0_0, qg0_1⟩ := Qg0_20.out
  have hlg0 := Qg0_20.out.lt
  obtain ⟨qh0_0, qh0_1⟩ := Qh0_20.out
  have hlh0 := Qh0_20.out.lt
  go_wp2_with fail
  go_ret
  exact ⟨rfl, HB20.out⟩

set_option maxRecDepth 100000 in
set_option maxHeartbeats 2000000 in
theorem contract (H : Type) (enc : TypeId × Value → H) (W : World) (base : Nat) (args : Array Value) (ds gs : List (DataW H)) (before : List MemPlace)
    (hval : ∀ (j : Nat) t v, Try.f14.params[j]? = some t → args[j]? = some v → Value.okWide Try.prog W .any base t v)
    (hW : DataW.Whole enc Try.prog Try.f14.params.toList Rows.fnExactSlowTrackSpec.vars false W args.toList ds gs before) (henv : Env W) :
    Calls Try.prog 14 args W fun e W' => ∃ v, e = .returned v ∧ Rows.fnExactSlowTrackSpec.post enc Try.prog Try.f14 false true false false W args v W' := by
  have hW' := hW
  obtain ⟨p, q, hA0, hV, rfl, hfz, hnd⟩ := hW
  have hA : DataW.TrodAll enc Try.prog W 0 (fun _ => true) true Try.f14.params.toList args.toList ds p := hA0
  rw [Try.params14] at hA hval
  obtain ⟨v0, vs0, d0, ds0, p0, q0, hargs0, rfl, rfl, h0, r0⟩ := trodAll_cons hA
  obtain ⟨v1, vs1, d1, ds1, p1, q1, hargs1, rfl, rfl, h1, r1⟩ := trodAll_cons r0
  obtain ⟨rfl, rfl, rfl⟩ := trodAll_nil r1
  obtain rfl : args = #[v0, v1] := by cases args; simp_all
  obtain ⟨rfl, rfl⟩ := trodVars_none hV
  have h0k := h0
  obtain ⟨s0, u0, a0, rfl, w0, x0, n0⟩ := Tk.track_open (hval 0 24 v0 rfl rfl) h0
  obtain ⟨a1, rfl, rfl, rfl, w1⟩ := open_int Try.underlying2 (hval 1 2 v1 rfl rfl) h1
  clear hA0
  have hltp : ∀ x ∈ p0 ++ ([] ++ []) ++ [], x.block < W.heap.size := fun x hx => hW'.lt x hx
  refine (walk W s0 u0 a0 w0 x0 n0 a1 w1 henv).mono fun e W' ⟨he, hg⟩ => ?_
  subst he
  exact ⟨_, rfl, post_of_below (pa := p0 ++ ([] ++ [])) (pv := []) hW' (fun _ _ _ => (trodAll_cons_mk (shut_bool Try.underlying4 _) trodAll_mk0)) (fun sp hsp => (trodAll_cons_mk (WideElems.Trod_stays (by kernel_rfl) (by kernel_rfl) (of_decide_eq_true (by kernel_rfl)) h0k (fun x hx => hg.same (hltp x (by simp [hx]))) (fun x hx => hsp x (by simp [hx]))) (trodAll_cons_mk (shut_int Try.underlying2 w1) trodAll_mk0))) (fun _ _ => rfl) rfl
    hg (ok_one (by kernel_rfl) rfl (okWide_bool_mk Try.underlying4 _))⟩

set_option maxRecDepth 100000 in
theorem lifted (os : Os) (started : os.Started) (H : Type) (enc : TypeId × Value → H) :
    ReturnsInHanded {} Try.checked os 14 .any (Rows.fnExactSlowTrackSpec.pre6 enc Try.prog Try.f14 Rows.fnExactSlowTrackRow.domain false) (Rows.fnExactSlowTrackSpec.post enc Try.prog Try.f14 false true false false) := by
  refine returnsInHanded_of_change (C := Try.checked) own started (by kernel_rfl) Try.func14
    (ChangeSpec.witness6 (enc := enc) (C := Try.checked) false ⟨#[], #[.agg #[.string ByteArray.empty, .slice none 0 0], .int .i64 0], []⟩ 8 (by kernel_rfl) (by kernel_rfl) (by kernel_rfl) (by kernel_rfl)) ?_
  intro W base args ds gs before hval hW _ _
  exact contract H enc W base args ds gs before hval hW trivial

theorem over : Rows.fnExactSlowTrackRow.holds Try.pinned (OpenSpec.ofChange Rows.fnExactSlowTrackSpec) :=
  OpenClaim.holds_of_wide 14 Try.f14 rfl rfl rfl rfl rfl rfl rfl ⟨rfl, rfl, rfl, rfl, rfl⟩ rfl rfl rfl rfl rfl (by kernel_rfl) Try.func14 (by kernel_rfl)
    (of_decide_eq_true (by kernel_rfl)) (by unfold Func.isWrapper; first | (rw [if_pos (by decide +kernel)]; kernel_rfl) | (rw [if_neg (by decide +kernel)]; exact ⟨rfl, rfl⟩))
    (fun os started H enc _ => lifted os started H enc)

theorem proved : Rows.FnExactSlowTrackSaid :=
  over
#print axioms proved
end Go.Proofs.Ytdbocpcijkngpaa.fnExactSlowTrack
