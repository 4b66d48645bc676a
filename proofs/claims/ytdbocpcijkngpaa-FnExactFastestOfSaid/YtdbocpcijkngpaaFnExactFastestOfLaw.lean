/-
  The law FnExactFastestOf: for every input the call returns true, and each argument reads afterwards as it read before. No condition.
-/
import Derived.Test.YtdbocpcijkngpaaRows
import Derived.Test.YtdbocpcijkngpaaPost0
import Derived.Test.YtdbocpcijkngpaaTkPs
import Derived.Test.YtdbocpcijkngpaaTkPi
import Derived.Test.YtdbocpcijkngpaaPost0
import Derived.WalkKit
import Derived.ProofKit
import Derived.OpenShut
import Derived.ChangeMaps5
import Derived.ChangeSlices
import Derived.Carry
import Derived.Lib.SmallJoins
namespace Go.Proofs.Ytdbocpcijkngpaa.fnExactFastestOf
open Go.ChangeShapes Go.WideShapes Go.ChangeAt Go.RowKit Go.ChangeMaps
set_option linter.unusedVariables false

theorem own : ownKnob Try.prog.godebug = none := by kernel_rfl

def Env (_w : World) : Prop := True

set_option maxRecDepth 100000 in
set_option maxHeartbeats 8000000 in
theorem walk (w : World) (s0 : ByteArray) (u0 : Value) (a0 : List Ky.V) (w0 : s0.size ≤ maxLen) (x0 : Ky.In w u0 a0) (n0 : a0.length ≤ 9223372036854775807) (henv : Env w) :
    Calls Try.prog 13 #[.agg #[.string s0, u0]] w fun e w' => e = .returned (.bool true) ∧ Below w.heap.size w w' := by
  have WF0 := Lib.hid w0
  have Z0 := Lib.hid (fun l h0 h1 w h => Tk.sz_any s0 WF0.out (u := u0) (zs := a0) l h0 h1 (w := w) h n0)
  have X0 := Lib.hid x0
  have OK0 := Lib.hid x0.oks
  clear x0 w0
  go_enter Try.func13, Try.ntmps13
  go_wp2_with fail
  have HB0 : Hid (Below w.heap.size w w) := Lib.hid (Below.refl _ _)
  obtain ⟨wb1, hwwb1⟩ : ∃ W, W = w.alloc (Obj.cells #[Value.string s0, u0] 24) := ⟨_, rfl⟩
  rw [← hwwb1]
  have hb : Below w.heap.size w wb1 := by rw [hwwb1]; exact (Below.refl _ _).alloc (Nat.le_refl _) _
  have hzwb1 : wb1.heap.size = w.heap.size + 1 := by rw [hwwb1]; simp
  have QNp0 := Lib.hid (Tk.TAt.new w (s0) (u0) 24)
  rw [← hwwb1] at QNp0
  clear hwwb1
  have hswb1 := hb.size
  have HB1 := Lib.hid (HB0.out.trans (hb.mono HB0.out.size))
  clear hb
  have Qp0_1 := QNp0
  clear QNp0
  have hlp0 := Qp0_1.out.lt
  obtain ⟨qp0_0, qp0_1⟩ := Qp0_1.out
  refine (Z0.out 1048576 (by omega) (by omega) _ (X0.out.below HB1.out)).mono ?_
  rintro e w2 ⟨z0, rfl, hz00, hz10, hz2, hb⟩
  clear qp0_0 qp0_1 hlp0
  have hsw2 := hb.size
  have HB2 := Lib.hid (HB1.out.trans (hb.mono HB1.out.size))
  have Qp0_2 := Lib.hid (Qp0_1.out.below hb)
  clear hb Qp0_1
  obtain ⟨qp0_0, qp0_1⟩ := Qp0_2.out
  have hlp0 := Qp0_2.out.lt
  by_cases hz0 : z0 < 0
  · clear hz2
    go_wp2_with fail
    go_ret
    exact ⟨rfl, HB2.out⟩
  have hl0 := hz2 (by omega)
  clear hz2
  go_wp2_with fail
  have T0 := Lib.hid (fun w h => Tk.to_any s0 (u := u0) (zs := a0) (w := w) h hl0)
  have F1 := Lib.hid (fun W g0 h0 => Tk.specFast_any s0 WF0.out g0 a0.length a0 W (by omega) (Nat.le_refl _) h0)
  have F2 := Lib.hid (fun W g0 h0 => Tk.implFast_any s0 WF0.out g0 a0.length a0 W (by omega) (Nat.le_refl _) h0)
  unfold Tk.N3Post at F1 F2
  generalize Tk.fastV s0 a0 = R at *
  refine (T0.out _ (X0.out.below HB2.out)).mono ?_
  rintro e w3 ⟨ga0, rfl, ho, hb⟩
  have HO := Lib.hid ho
  clear ho
  clear qp0_0 qp0_1 hlp0
  have hsw3 := hb.size
  have HB3 := Lib.hid (HB2.out.trans (hb.mono HB2.out.size))
  have Qp0_3 := Lib.hid (Qp0_2.out.below hb)
  clear hb Qp0_2
  obtain ⟨qp0_0, qp0_1⟩ := Qp0_3.out
  have hlp0 := Qp0_3.out.lt
  have Oa0_3 := HO
  clear HO
  go_wp2_with fail
  refine (F1.out _ _ Oa0_3.out.row).mono ?_
  rintro e w4 ⟨rfl, hb⟩
  clear qp0_0 qp0_1 hlp0
  have hsw4 := hb.size
  have HB4 := Lib.hid (HB3.out.trans (hb.mono HB3.out.size))
  have Qp0_4 := Lib.hid (Qp0_3.out.below hb)
  have Oa0_4 := Lib.hid (Oa0_3.out.below hb)
  clear hb Qp0_3 Oa0_3
  obtain ⟨qp0_0, qp0_1⟩ := Qp0_4.out
  have hlp0 := Qp0_4.out.lt
  go_wp2_with fail
  clear Oa0_4
  refine (T0.out _ (X0.out.below HB4.out)).mono ?_
  rintro e w5 ⟨gx0, rfl, ho, hb⟩
  have HO := Lib.hid ho
  clear ho
  clear qp0_0 qp0_1 hlp0
  have hsw5 := hb.size
  have HB5 := Lib.hid (HB4.out.trans (hb.mono HB4.out.size))
  have Qp0_5 := Lib.hid (Qp0_4.out.below hb)
  clear hb Qp0_4
  obtain ⟨qp0_0, qp0_1⟩ := Qp0_5.out
  have hlp0 := Qp0_5.out.lt
  have Ox0_5 := HO
  clear HO
  go_wp2_with fail
  obtain ⟨wb6, hwwb6⟩ : ∃ W, W = w5.alloc (Obj.cells #[Value.string s0, .slice (some ⟨gx0, 0, none⟩) a0.length a0.length] 29) := ⟨_, rfl⟩
  rw [← hwwb6]
  have hb : Below w5.heap.size w5 wb6 := by rw [hwwb6]; exact (Below.refl _ _).alloc (Nat.le_refl _) _
  have hzwb6 : wb6.heap.size = w5.heap.size + 1 := by rw [hwwb6]; simp
  have QNx0 := Lib.hid (Tk.TAt.new w5 (s0) (.slice (some ⟨gx0, 0, none⟩) a0.length a0.length) 29)
  rw [← hwwb6] at QNx0
  clear hwwb6
  clear qp0_0 qp0_1 hlp0
  have hswb6 := hb.size
  have HB6 := Lib.hid (HB5.out.trans (hb.mono HB5.out.size))
  have Qp0_6 := Lib.hid (Qp0_5.out.below hb)
  have Ox0_6 := Lib.hid (Ox0_5.out.below hb)
  clear hb Qp0_5 Ox0_5
  obtain ⟨qp0_0, qp0_1⟩ := Qp0_6.out
  have hlp0 := Qp0_6.out.lt
  have Qx0_6 := QNx0
  clear QNx0
  have hlx0 := Qx0_6.out.lt
  obtain ⟨qx0_0, qx0_1⟩ := Qx0_6.out
  refine (F2.out _ _ Ox0_6.out.row).mono ?_
  rintro e w7 ⟨rfl, hb⟩
  clear qp0_0 qp0_1 qx0_0 qx0_1 hlp0 hlx0
  have hsw7 := hb.size
  have HB7 := Lib.hid (HB6.out.trans (hb.mono HB6.out.size))
  have Qp0_7 := Lib.hid (Qp0_6.out.below hb)
  have Qx0_7 := Lib.hid (Qx0_6.out.below hb)
  have Ox0_7 := Lib.hid (Ox0_6.out.below hb)
  clear hb Qp0_6 Qx0_6 Ox0_6
  obtain ⟨qp0_0, qp0_1⟩ := Qp0_7.out
  have hlp0 := Qp0_7.out.lt
  obtain ⟨qx0_0, qx0_1⟩ := Qx0_7.out
  have hlx0 := Qx0_7.out.lt
  go_wp2_with fail
  have KB : Hid (w7.cell? ⟨w5.heap.size, 0, none⟩ = some (.string s0) ∧ w7.cell? ⟨w5.heap.size, 1, none⟩ = some (.slice (some ⟨gx0, 0, none⟩) a0.length a0.length) ∧ w7.cell? ⟨w.heap.size, 0, none⟩ = some (.string s0) ∧ w7.cell? ⟨w.heap.size, 1, none⟩ = some (u0) ∧ Below w7.heap.size w7 w7) := Lib.hid ⟨qx0_0, qx0_1, qp0_0, qp0_1, Below.refl _ _⟩
  go_region_held3 (fun W => W.cell? ⟨w5.heap.size, 0, none⟩ = some (.string s0) ∧ W.cell? ⟨w5.heap.size, 1, none⟩ = some (.slice (some ⟨gx0, 0, none⟩) a0.length a0.length) ∧ W.cell? ⟨w.heap.size, 0, none⟩ = some (.string s0) ∧ W.cell? ⟨w.heap.size, 1, none⟩ = some (u0) ∧ Below w7.heap.size w7 W) (first | (exact keepW4 KB.out (drewG w7)) | (exact keepW4 KB.out y2) | (exact keepW4 KB.out y1) | go_keep) ((first
    | (go_at_call 18; refine (T0.out _ ((X0.out.below HB7.out).below (drewG w7))).mono ?_; rintro e ux1 ⟨gy, rfl, hC, hu1⟩; have y1 := undrewG hu1)
    | (go_at_call 20; refine (Tk.eqO_any s0 hl0 (Ox0_7.out.below y1) hC).mono ?_; rintro e ux2 ⟨rfl, hu2⟩; have y2 := y1.trans (hu2.mono y1.size))))
  rename_i held
  have hb := y2
  clear held KB hC hu1 hu2 y1 y2
  obtain ⟨w11, hew11⟩ : ∃ W, W = ux2 := ⟨_, rfl⟩
  rw [← hew11] at hb ⊢
  clear hew11
  clear qp0_0 qp0_1 qx0_0 qx0_1 hlp0 hlx0
  have hsw11 := hb.size
  have HB8 := Lib.hid (HB7.out.trans (hb.mono HB7.out.size))
  have Qp0_8 := Lib.hid (Qp0_7.out.below hb)
  have Qx0_8 := Lib.hid (Qx0_7.out.below hb)
  have Ox0_8 := Lib.hid (Ox0_7.out.below hb)
  clear hb Qp0_7 Qx0_7 Ox0_7
  obtain ⟨qp0_0, qp0_1⟩ := Qp0_8.out
  have hlp0 := Qp0_8.out.lt
  obtain ⟨qx0_0, qx0_1⟩ := Qx0_8.out
  have hlx0 := Qx0_8.out.lt
  go_wp2_with fail
  go_ret
  exact ⟨rfl, HB8.out⟩

set_option maxRecDepth 100000 in
set_option maxHeartbeats 2000000 in
theorem contract (H : Type) (enc : TypeId × Value → H) (W : World) (base : Nat) (args : Array Value) (ds gs : List (DataW H)) (before : List MemPlace)
    (hval : ∀ (j : Nat) t v, Try.f13.params[j]? = some t → args[j]? = some v → Value.okWide Try.prog W .any base t v)
    (hW : DataW.Whole enc Try.prog Try.f13.params.toList Rows.fnExactFastestOfSpec.vars false W args.toList ds gs before) (henv : Env W) :
    Calls Try.prog 13 args W fun e W' => ∃ v, e = .returned v ∧ Rows.fnExactFastestOfSpec.post enc Try.prog Try.f13 false true false false W args v W' := by
  have hW' := hW
  obtain ⟨p, q, hA0, hV, rfl, hfz, hnd⟩ := hW
  have hA : DataW.TrodAll enc Try.prog W 0 (fun _ => true) true Try.f13.params.toList args.toList ds p := hA0
  rw [Try.params13] at hA hval
  obtain ⟨v0, vs0, d0, ds0, p0, q0, hargs0, rfl, rfl, h0, r0⟩ := trodAll_cons hA
  obtain ⟨rfl, rfl, rfl⟩ := trodAll_nil r0
  obtain rfl : args = #[v0] := by cases args; simp_all
  obtain ⟨rfl, rfl⟩ := trodVars_none hV
  have h0k := h0
  obtain ⟨s0, u0, a0, rfl, w0, x0, n0⟩ := Tk.track_open (hval 0 24 v0 rfl rfl) h0
  clear hA0
  have hltp : ∀ x ∈ p0 ++ [] ++ [], x.block < W.heap.size := fun x hx => hW'.lt x hx
  refine (walk W s0 u0 a0 w0 x0 n0 henv).mono fun e W' ⟨he, hg⟩ => ?_
  subst he
  exact ⟨_, rfl, post_of_below (pa := p0 ++ []) (pv := []) hW' (fun _ _ _ => (trodAll_cons_mk (shut_bool Try.underlying4 _) trodAll_mk0)) (fun sp hsp => (trodAll_cons_mk (WideElems.Trod_stays (by kernel_rfl) (by kernel_rfl) (of_decide_eq_true (by kernel_rfl)) h0k (fun x hx => hg.same (hltp x (by simp [hx]))) (fun x hx => hsp x (by simp [hx]))) trodAll_mk0)) (fun _ _ => rfl) rfl
    hg (ok_one (by kernel_rfl) rfl (okWide_bool_mk Try.underlying4 _))⟩

set_option maxRecDepth 100000 in
theorem lifted (os : Os) (started : os.Started) (H : Type) (enc : TypeId × Value → H) :
    ReturnsInHanded {} Try.checked os 13 .any (Rows.fnExactFastestOfSpec.pre6 enc Try.prog Try.f13 Rows.fnExactFastestOfRow.domain false) (Rows.fnExactFastestOfSpec.post enc Try.prog Try.f13 false true false false) := by
  refine returnsInHanded_of_change (C := Try.checked) own started (by kernel_rfl) Try.func13
    (ChangeSpec.witness6 (enc := enc) (C := Try.checked) false ⟨#[], #[.agg #[.string ByteArray.empty, .slice none 0 0]], []⟩ 8 (by kernel_rfl) (by kernel_rfl) (by kernel_rfl) (by kernel_rfl)) ?_
  intro W base args ds gs before hval hW _ _
  exact contract H enc W base args ds gs before hval hW trivial

theorem over : Rows.fnExactFastestOfRow.holds Try.pinned (OpenSpec.ofChange Rows.fnExactFastestOfSpec) :=
  OpenClaim.holds_of_wide 13 Try.f13 rfl rfl rfl rfl rfl rfl rfl ⟨rfl, rfl, rfl, rfl, rfl⟩ rfl rfl rfl rfl rfl (by kernel_rfl) Try.func13 (by kernel_rfl)
    (of_decide_eq_true (by kernel_rfl)) (by unfold Func.isWrapper; first | (rw [if_pos (by decide +kernel)]; kernel_rfl) | (rw [if_neg (by decide +kernel)]; exact ⟨rfl, rfl⟩))
    (fun os started H enc _ => lifted os started H enc)

theorem proved : Rows.FnExactFastestOfSaid :=
  over
#print axioms proved
end Go.Proofs.Ytdbocpcijkngpaa.fnExactFastestOf
