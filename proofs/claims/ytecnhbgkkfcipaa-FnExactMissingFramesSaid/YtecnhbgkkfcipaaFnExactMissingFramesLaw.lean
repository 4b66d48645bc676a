/-
  The law FnExactMissingFrames: for every input the call returns true, and each argument reads afterwards as it read before. No condition.
-/
import Derived.Test.YtecnhbgkkfcipaaRows
import Derived.Test.YtecnhbgkkfcipaaPost0
import Derived.Test.YtecnhbgkkfcipaaMsL
import Derived.Test.YtecnhbgkkfcipaaInO
import Derived.WalkKit
import Derived.ProofKit
import Derived.OpenShut
import Derived.ChangeMaps5
import Derived.ChangeSlices
import Derived.Carry
import Derived.Lib.SmallJoins
namespace Go.Proofs.Ytecnhbgkkfcipaa.fnExactMissingFrames
open Go.ChangeShapes Go.WideShapes Go.ChangeAt Go.RowKit Go.ChangeMaps
set_option linter.unusedVariables false

theorem own : ownKnob Try.prog.godebug = none := by kernel_rfl

def Env (_w : World) : Prop := True

set_option maxRecDepth 100000 in
set_option maxHeartbeats 8000000 in
theorem walk (w : World) (v0 : Value) (a0 : List Int) (w0 : ListIn w v0 a0) (henv : Env w) :
    Calls Try.prog 13 #[v0] w fun e w' => e = .returned (.bool true) ∧ Below w.heap.size w w' := by
  obtain ⟨ad0, cp0, hv0⟩ := w0.len
  subst hv0
  have X0 := Lib.hid w0
  have kk0 : Hid True := Lib.hid trivial
  clear w0 kk0
  by_cases hs0 : 1048576 < a0.length
  · go_enter Try.func13, Try.ntmps13
    go_wp2_with fail
    go_ret
    exact ⟨rfl, Below.refl _ _⟩
  have hi0 : ¬ (1048576 : Int) < (a0.length : Int) := by omega
  have hl0 : a0.length ≤ 1048576 := by omega
  go_enter Try.func13, Try.ntmps13
  go_wp2_with fail
  have HB0 : Hid (Below w.heap.size w w) := Lib.hid (Below.refl _ _)
  have T0 := Lib.hid (fun w h => Ms.toO_any (v := .slice ad0 a0.length cp0) (zs := a0) (w := w) h hl0)
  have F1 := Lib.hid (fun W g0 h0 => Ms.specMiss_any g0 a0.length a0 W (by omega) h0)
  have F2 := Lib.hid (fun W g0 h0 => Ms.implMiss_any g0 a0.length a0 W (by omega) h0)
  have hrl : (Ms.missV a0).1.length ≤ 1048576 := Nat.le_trans (Ms.missV_len a0) (by omega)
  unfold Ms.IPost at F1 F2
  generalize Ms.missV a0 = R at *
  obtain ⟨L, k⟩ := R
  simp only at F1 F2 hrl
  refine (T0.out _ (X0.out.below HB0.out)).mono ?_
  rintro e w1 ⟨ga0, rfl, ho, hc, hb⟩
  have HO := Lib.hid ho
  have HCa0 := Lib.hid hc
  clear ho hc
  have hsw1 := hb.size
  have HB1 := Lib.hid (HB0.out.trans (hb.mono HB0.out.size))
  clear hb
  have Oa0_1 := HO
  clear HO
  go_wp2_with fail
  refine (F1.out _ _ HCa0.out).mono ?_
  rintro e w2 ⟨uw0, rfl, ho0, hb⟩
  have HO0 := Lib.hid ho0
  clear ho0
  have hsw2 := hb.size
  have HB2 := Lib.hid (HB1.out.trans (hb.mono HB1.out.size))
  have Oa0_2 := Lib.hid (Oa0_1.out.below hb)
  clear hb Oa0_1
  have Ow0_2 := HO0
  clear HO0
  go_wp2_with fail
  clear Oa0_2
  refine (T0.out _ (X0.out.below HB2.out)).mono ?_
  rintro e w3 ⟨gx0, rfl, ho, hc, hb⟩
  have HO := Lib.hid ho
  have HCx0 := Lib.hid hc
  clear ho hc
  have hsw3 := hb.size
  have HB3 := Lib.hid (HB2.out.trans (hb.mono HB2.out.size))
  have Ow0_3 := Lib.hid (Ow0_2.out.below hb)
  clear hb Ow0_2
  have Ox0_3 := HO
  clear HO
  go_wp2_with fail
  refine (F2.out _ _ HCx0.out).mono ?_
  rintro e w4 ⟨ug0, rfl, ho0, hb⟩
  have HO0 := Lib.hid ho0
  clear ho0
  have hsw4 := hb.size
  have HB4 := Lib.hid (HB3.out.trans (hb.mono HB3.out.size))
  have Ow0_4 := Lib.hid (Ow0_3.out.below hb)
  have Ox0_4 := Lib.hid (Ox0_3.out.below hb)
  clear hb Ow0_3 Ox0_3
  have Og0_4 := HO0
  clear HO0
  go_wp2_with fail
  refine (In.eqO_any hrl Og0_4.out Ow0_4.out).mono ?_
  rintro e w5 ⟨rfl, hb⟩
  have hsw5 := hb.size
  have HB5 := Lib.hid (HB4.out.trans (hb.mono HB4.out.size))
  have Ow0_5 := Lib.hid (Ow0_4.out.below hb)
  have Ox0_5 := Lib.hid (Ox0_4.out.below hb)
  have Og0_5 := Lib.hid (Og0_4.out.below hb)
  clear hb Ow0_4 Ox0_4 Og0_4
  go_wp2_with fail
  refine (T0.out _ (X0.out.below HB5.out)).mono ?_
  rintro e w7 ⟨gy0, rfl, ho, hc, hb⟩
  have HO := Lib.hid ho
  have HCy0 := Lib.hid hc
  clear ho hc
  have hsw7 := hb.size
  have HB6 := Lib.hid (HB5.out.trans (hb.mono HB5.out.size))
  have Ow0_6 := Lib.hid (Ow0_5.out.below hb)
  have Ox0_6 := Lib.hid (Ox0_5.out.below hb)
  have Og0_6 := Lib.hid (Og0_5.out.below hb)
  clear hb Ow0_5 Ox0_5 Og0_5
  have Oy0_6 := HO
  clear HO
  go_wp2_with fail
  refine (In.eqO_any hl0 Ox0_6.out Oy0_6.out).mono ?_
  rintro e w8 ⟨rfl, hb⟩
  have hsw8 := hb.size
  have HB7 := Lib.hid (HB6.out.trans (hb.mono HB6.out.size))
  have Ow0_7 := Lib.hid (Ow0_6.out.below hb)
  have Ox0_7 := Lib.hid (Ox0_6.out.below hb)
  have Og0_7 := Lib.hid (Og0_6.out.below hb)
  have Oy0_7 := Lib.hid (Oy0_6.out.below hb)
  clear hb Ow0_6 Ox0_6 Og0_6 Oy0_6
  clear Oy0_7
  go_wp2_with fail
  refine (In.markO_int _ (1) (by simp) (by omega) (by omega) (by omega) Ox0_7.out).mono ?_
  rintro e w9 ⟨rfl, ho, hm⟩
  have hsw9 := hm.size
  have HB8 := Lib.hid (HB7.out.trans (hm.below (by omega) (by omega)))
  have Ow0_8 := Lib.hid (Ow0_7.out.mod hm (by omega))
  have Ox0_8 := Lib.hid ho
  have Og0_8 := Lib.hid (Og0_7.out.mod hm (by omega))
  clear hm ho Ow0_7 Ox0_7 Og0_7
  go_wp2_with fail
  refine (In.eqO_any hrl Og0_8.out Ow0_8.out).mono ?_
  rintro e w10 ⟨rfl, hb⟩
  have hsw10 := hb.size
  have HB9 := Lib.hid (HB8.out.trans (hb.mono HB8.out.size))
  have Ow0_9 := Lib.hid (Ow0_8.out.below hb)
  have Ox0_9 := Lib.hid (Ox0_8.out.below hb)
  have Og0_9 := Lib.hid (Og0_8.out.below hb)
  clear hb Ow0_8 Ox0_8 Og0_8
  go_wp2_with fail
  refine (In.markO_int _ (1) (by simp) (by omega) (by omega) (by omega) Og0_9.out).mono ?_
  rintro e w12 ⟨rfl, ho, hm⟩
  have hsw12 := hm.size
  have HB10 := Lib.hid (HB9.out.trans (hm.below (by omega) (by omega)))
  have Ow0_10 := Lib.hid (Ow0_9.out.mod hm (by omega))
  have Ox0_10 := Lib.hid (Ox0_9.out.mod hm (by omega))
  have Og0_10 := Lib.hid ho
  clear hm ho Ow0_9 Ox0_9 Og0_9
  go_wp2_with fail
  refine (In.heldO_int _ (1) (by simp) (by omega) (by omega) (by omega) Og0_10.out).mono ?_
  rintro e w' ⟨rfl, rfl⟩
  go_wp2_with fail
  refine (T0.out _ (X0.out.below HB10.out)).mono ?_
  rintro e w14 ⟨gb0, rfl, ho, hc, hb⟩
  have HO := Lib.hid ho
  have HCb0 := Lib.hid hc
  clear ho hc
  have hsw14 := hb.size
  have HB11 := Lib.hid (HB10.out.trans (hb.mono HB10.out.size))
  have Ow0_11 := Lib.hid (Ow0_10.out.below hb)
  have Ox0_11 := Lib.hid (Ox0_10.out.below hb)
  have Og0_11 := Lib.hid (Og0_10.out.below hb)
  clear hb Ow0_10 Ox0_10 Og0_10
  have Ob0_11 := HO
  clear HO
  go_wp2_with fail
  refine (F2.out _ _ HCb0.out).mono ?_
  rintro e w15 ⟨uh0, rfl, ho0, hb⟩
  have HO0 := Lib.hid ho0
  clear ho0
  have hsw15 := hb.size
  have HB12 := Lib.hid (HB11.out.trans (hb.mono HB11.out.size))
  have Ow0_12 := Lib.hid (Ow0_11.out.below hb)
  have Ox0_12 := Lib.hid (Ox0_11.out.below hb)
  have Og0_12 := Lib.hid (Og0_11.out.below hb)
  have Ob0_12 := Lib.hid (Ob0_11.out.below hb)
  clear hb Ow0_11 Ox0_11 Og0_11 Ob0_11
  have Oh0_12 := HO0
  clear HO0
  go_wp2_with fail
  refine (In.eqO_any hrl Oh0_12.out Ow0_12.out).mono ?_
  rintro e w16 ⟨rfl, hb⟩
  have hsw16 := hb.size
  have HB13 := Lib.hid (HB12.out.trans (hb.mono HB12.out.size))
  have Ow0_13 := Lib.hid (Ow0_12.out.below hb)
  have Ox0_13 := Lib.hid (Ox0_12.out.below hb)
  have Og0_13 := Lib.hid (Og0_12.out.below hb)
  have Ob0_13 := Lib.hid (Ob0_12.out.below hb)
  have Oh0_13 := Lib.hid (Oh0_12.out.below hb)
  clear hb Ow0_12 Ox0_12 Og0_12 Ob0_12 Oh0_12
  go_wp2_with fail
  refine (In.heldO_int _ (1) (by simp) (by omega) (by omega) (by omega) Og0_13.out).mono ?_
  rintro e w' ⟨rfl, rfl⟩
  go_wp2_with fail
  go_ret
  exact ⟨rfl, HB13.out⟩

set_option maxRecDepth 100000 in
set_option maxHeartbeats 2000000 in
theorem contract (H : Type) (enc : TypeId × Value → H) (W : World) (base : Nat) (args : Array Value) (ds gs : List (DataW H)) (before : List MemPlace)
    (hval : ∀ (j : Nat) t v, Try.f13.params[j]? = some t → args[j]? = some v → Value.okWide Try.prog W .any base t v)
    (hW : DataW.Whole enc Try.prog Try.f13.params.toList Rows.fnExactMissingFramesSpec.vars false W args.toList ds gs before) (henv : Env W) :
    Calls Try.prog 13 args W fun e W' => ∃ v, e = .returned v ∧ Rows.fnExactMissingFramesSpec.post enc Try.prog Try.f13 false true false false W args v W' := by
  have hW' := hW
  obtain ⟨p, q, hA0, hV, rfl, hfz, hnd⟩ := hW
  have hA : DataW.TrodAll enc Try.prog W 0 (fun _ => true) true Try.f13.params.toList args.toList ds p := hA0
  rw [Try.params13] at hA hval
  obtain ⟨v0, vs0, d0, ds0, p0, q0, hargs0, rfl, rfl, h0, r0⟩ := trodAll_cons hA
  obtain ⟨rfl, rfl, rfl⟩ := trodAll_nil r0
  obtain rfl : args = #[v0] := by cases args; simp_all
  obtain ⟨rfl, rfl⟩ := trodVars_none hV
  have h0k := h0
  obtain ⟨sa0, sn0, sc0, rfl⟩ := okWide_slice Try.underlying48 (hval 0 48 v0 rfl rfl)
  have hin0 : ∃ zs : List Int, ListIn W (.slice sa0 sn0 sc0) zs := by
    obtain ⟨fuel, hf⟩ := h0
    rcases open_ints Try.underlying48 Try.underlying2 (by kernel_rfl) hf with ⟨hcs, hx⟩ | ⟨a, len', cap', zs, hcs, _, hl, hm, hz, hx, hcell, hwz⟩
    · simp [Value.cells] at hcs
      obtain ⟨rfl, rfl, rfl⟩ := hcs
      exact ⟨[], .inl ⟨_, _, rfl, rfl⟩⟩
    · simp [Value.cells] at hcs
      obtain ⟨rfl, rfl, rfl⟩ := hcs
      simp only [if_true] at hz
      by_cases hl0 : sn0 = 0
      · subst hl0
        exact ⟨[], .inl ⟨_, _, rfl, rfl⟩⟩
      · obtain ⟨b, off, spot⟩ := a
        have hspot : spot = none := by simpa [Addr.add] using World.cell?_spot (hcell 0 (by omega))
        subst hspot
        have hlt : (zs.take sn0).length = sn0 := by simp; omega
        have hget : ∀ j, (h : j < (zs.take sn0).length) → W.cell? ⟨b, off + j, none⟩ = some (.int .i64 (zs.take sn0)[j]) := by
          intro j hj
          have h1 := hcell j (by omega)
          rw [add_plain] at h1
          rw [h1]
          simp [List.getD, show j < zs.length by omega]
        exact ⟨zs.take sn0, .inr ⟨b, off, sc0, by rw [hlt], World.block_lt_of_cell? W ⟨b, off + 0, none⟩ (hget 0 (by omega)), fun j hj => ⟨hget j hj, fit64 (hwz _ (List.mem_of_mem_take (List.getElem_mem hj)))⟩⟩⟩
  obtain ⟨a0, w0⟩ := hin0
  clear hA0
  have hltp : ∀ x ∈ p0 ++ [] ++ [], x.block < W.heap.size := fun x hx => hW'.lt x hx
  refine (walk W _ a0 w0 henv).mono fun e W' ⟨he, hg⟩ => ?_
  subst he
  exact ⟨_, rfl, post_of_below (pa := p0 ++ []) (pv := []) hW' (fun _ _ _ => (trodAll_cons_mk (shut_bool Try.underlying4 _) trodAll_mk0)) (fun sp hsp => (trodAll_cons_mk (WideElems.Trod_stays (by kernel_rfl) (by kernel_rfl) (of_decide_eq_true (by kernel_rfl)) h0k (fun x hx => hg.same (hltp x (by simp [hx]))) (fun x hx => hsp x (by simp [hx]))) trodAll_mk0)) (fun _ _ => rfl) rfl
    hg (ok_one (by kernel_rfl) rfl (okWide_bool_mk Try.underlying4 _))⟩

set_option maxRecDepth 100000 in
theorem lifted (os : Os) (started : os.Started) (H : Type) (enc : TypeId × Value → H) :
    ReturnsInHanded {} Try.checked os 13 .any (Rows.fnExactMissingFramesSpec.pre6 enc Try.prog Try.f13 Rows.fnExactMissingFramesRow.domain false) (Rows.fnExactMissingFramesSpec.post enc Try.prog Try.f13 false true false false) := by
  refine returnsInHanded_of_change (C := Try.checked) own started (by kernel_rfl) Try.func13
    (ChangeSpec.witness6 (enc := enc) (C := Try.checked) false ⟨#[], #[.slice none 0 0], []⟩ 8 (by kernel_rfl) (by kernel_rfl) (by kernel_rfl) (by kernel_rfl)) ?_
  intro W base args ds gs before hval hW _ _
  exact contract H enc W base args ds gs before hval hW trivial

theorem over : Rows.fnExactMissingFramesRow.holds Try.pinned (OpenSpec.ofChange Rows.fnExactMissingFramesSpec) :=
  OpenClaim.holds_of_wide 13 Try.f13 rfl rfl rfl rfl rfl rfl rfl ⟨rfl, rfl, rfl, rfl, rfl⟩ rfl rfl rfl rfl rfl (by kernel_rfl) Try.func13 (by kernel_rfl)
    (of_decide_eq_true (by kernel_rfl)) (by unfold Func.isWrapper; first | (rw [if_pos (by decide +kernel)]; kernel_rfl) | (rw [if_neg (by decide +kernel)]; exact ⟨rfl, rfl⟩))
    (fun os started H enc _ => lifted os started H enc)

theorem proved : Rows.FnExactMissingFramesSaid :=
  over
#print axioms proved
end Go.Proofs.Ytecnhbgkkfcipaa.fnExactMissingFrames
