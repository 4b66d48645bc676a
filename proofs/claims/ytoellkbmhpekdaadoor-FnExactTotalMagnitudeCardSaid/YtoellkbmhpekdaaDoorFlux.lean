/-
  Fluxes: the contracts of fluxAbove (package impl, which reads the package variable) and of l05Flux (package spec).
-/
import Derived.Test.YtoellkbmhpekdaaDoorFluxM
import Derived.Test.YtoellkbmhpekdaaDoorDivR
import Derived.IntWalk
import Derived.StillTailTactics
import Derived.RegionTactic
import Derived.Deep.QuietTactic
import Derived.BigQuiet
import Derived.Deep.LoopGhost
import Derived.Deep.Draws
namespace Go.Proofs.YtoellkbmhpekdaaDoor
open Go.RowKit
set_option linter.unusedVariables false

/-- The package variable holds the fluxes. -/
def FluxOK (w : World) : Prop := 0 < w.heap.size ∧ ∀ j, j < 11 → w.cell? ⟨0, j, none⟩ = some (.int .i64 (fT j))
theorem FluxOK.below {w w' : World} (h : FluxOK w) (hb : Below w.heap.size w w') : FluxOK w' :=
  ⟨by have := hb.size; have := h.1; omega, fun j hj => (hb.cell (p := ⟨0, j, none⟩) h.1).trans (h.2 j hj)⟩
theorem quiet_leftF {P : Program} {f : FuncId} {args : Array Value} {w : World} {n : Nat} {v : Value}
    (h : Calls P f args (w.drewN n) fun e w' => e = .returned v ∧ w.drewN n = w') : Calls P f args (w.drewN n) fun e w'' => e = .returned v ∧ ∃ m, w'' = w.drewN m :=
  h.mono fun _ _ ⟨he, hm⟩ => ⟨he, n, hm.symm⟩
theorem divR_up (f : Int) (h0 : 1000 ≤ f) (h1 : f ≤ 148331088) : divR (2512 * f) 1000 = nearQ (2512 * f) 1000 := by
  unfold divR
  rw [if_pos]
  rw [inR_2, Bool.and_eq_true, inR_1, inR_1]
  omega

set_option maxRecDepth 100000 in
set_option maxHeartbeats 1000000 in
theorem fluxAbove_any (n : Nat) (hn : n ≤ 1000) (w : World) (hf : FluxOK w) :
    Calls Tryd.prog 64 #[.int .i64 (n : Int)] w fun e w' => e = .returned (.int .i64 (fluxN n)) ∧ Below w.heap.size w w' := by
  obtain ⟨k, hk⟩ : ∃ k : Nat, k = n % 100 / 10 := ⟨_, rfl⟩
  obtain ⟨k', hk'⟩ : ∃ k' : Nat, k' = k + 1 := ⟨_, rfl⟩
  obtain ⟨r, hr⟩ : ∃ r : Nat, r = n % 10 := ⟨_, rfl⟩
  obtain ⟨q, hq⟩ : ∃ q : Nat, q = n / 100 := ⟨_, rfl⟩
  have hbl := fB_blend (n % 100) (by omega)
  have hbb := fB_bd (n % 100) (by omega)
  rw [← hk, ← hk', show n % 100 % 10 = r by omega] at hbl
  have hv : fluxN n = fluxUp (fB (n % 100)) q := by rw [hq]; rfl
  rw [hv]
  have c1 := hf.2 k (by omega)
  have c2 := hf.2 k' (by omega)
  have BL := Lib.hid hbl
  have FU := Lib.hid (fun i (hi : i ≤ 10) => fluxUp_le (fB (n % 100)) hbb.1 hbb.2 i hi)
  clear hv hbl hf hbb
  generalize fB (n % 100) = B at *
  generalize fT k = p at *
  generalize fT k' = p' at *
  have hd : (n : Int) % 100 / 10 = (k : Int) := by omega
  have ek : (k : Int) + 1 = (k' : Int) := by omega
  have er : (n : Int) % 10 = (r : Int) := by omega
  have eq : (n : Int) / 100 = (q : Int) := by omega
  have a0 : (0 : Int) ≤ (k : Int) := by omega
  have a1 : (k : Int) < 11 := by omega
  have b0 : (0 : Int) ≤ (k' : Int) := by omega
  have b1 : (k' : Int) < 11 := by omega
  have hq10 : q ≤ 10 := by omega
  have mk' : IntKind.i64.wrap (k' : Int) = (k' : Int) := IntWalk.i64_in _ (by omega)
  have n0 : (0 : Int) ≤ (n : Int) := by omega
  have n1 : (n : Int) ≤ 1000 := by omega
  have et : Int.tmod (n : Int) 10 = (r : Int) := by rw [Int.tmod_eq_emod_of_nonneg n0]; exact er
  have ET := Lib.hid et
  clear hk hk' hr hq et
  go_enter Tryd.func64, Tryd.ntmps64
  go_wp2_with fail
  refine wp_region_still_tail 9 (by kernel_rfl) (by kernel_rfl) ?_
  have d1 : ({ heap := w.heap, tape := w.tape, drawn := w.drawn + 1, os := w.os, output := w.output } : World).cell? ⟨0, k, none⟩ = some (.int .i64 p) := c1
  have d2 : ({ heap := w.heap, tape := w.tape, drawn := w.drawn + 1, os := w.os, output := w.output } : World).cell? ⟨0, k', none⟩ = some (.int .i64 p') := c2
  have HB0 : Hid (Below w.heap.size w ({ heap := w.heap, tape := w.tape, drawn := w.drawn + 1, os := w.os, output := w.output } : World)) := Lib.hid ⟨rfl, rfl, rfl, Nat.le_refl _, fun _ _ => rfl⟩
  generalize ({ heap := w.heap, tape := w.tape, drawn := w.drawn + 1, os := w.os, output := w.output } : World) = w2 at d1 d2 HB0 ⊢
  simp only [List.take_succ_cons, List.take_zero, List.drop_succ_cons, List.drop_zero]
  repeat still_step
  refine wpStill_nil ?_
  clear d1 d2 c1 c2
  go_wp2_with fail
  refine (implBlend_any _ _ _ _ _ _).mono ?_
  rintro e w3 ⟨rfl, hb⟩
  rw [ET.out, er, BL.out]
  clear ET
  have HB : Hid (Below w.heap.size w w3) := Lib.hid (HB0.out.trans (hb.mono HB0.out.size))
  clear hb HB0 BL
  go_wp2_with fail
  clear hd ek er eq mk'
  go_loopg [4, 20] (q + 1) (fun kx s4 s20 wr => ∃ i : Nat, i ≤ q ∧ kx = q + 1 - i ∧ s4 = .int .i64 (fluxUp B i) ∧ s20 = .int .i64 i ∧ Hid (Below w.heap.size w wr))
  case atStart => exact ⟨0, Nat.zero_le _, rfl, rfl, rfl, HB⟩
  case round =>
    obtain ⟨i, hi, rfl, rfl, rfl, HR⟩ := hrel
    by_cases hlt : i < q
    · have hfu := FU.out i (by omega)
      obtain ⟨f, hf⟩ : ∃ f, f = fluxUp B i := ⟨_, rfl⟩
      have hnx : nearQ (2512 * f) 1000 = fluxUp B (i + 1) := by rw [hf]; rfl
      rw [← hf] at hfu
      have DV := Lib.hid (fun w => implDiv_any (2512 * f) 1000 w)
      rw [divR_up f hfu.1 hfu.2, hnx] at DV
      rw [← hf]
      obtain ⟨f0, f1⟩ := hfu
      clear hf hnx
      generalize hf' : fluxUp B (i + 1) = f' at *
      have HF := Lib.hid hf'
      clear hf'
      go_wp2_with fail
      refine (DV.out _).mono ?_
      rintro e w4 ⟨rfl, hb⟩
      have HB4 : Hid (Below w.heap.size w w4) := Lib.hid (HR.out.trans (hb.mono HR.out.size))
      clear hb
      go_wp2_with fail
      go_roundg (q + 1 - (i + 1))
      case measure => omega
      case rel => exact ⟨i + 1, by omega, rfl, congrArg (Value.int .i64) HF.out.symm, by go_num, HB4⟩
    · obtain rfl : i = q := by omega
      clear hlt
      go_wp2_with fail
      go_ret
      exact ⟨rfl, HR.out⟩

set_option maxRecDepth 100000 in
set_option maxHeartbeats 1000000 in
theorem l05Flux_any (n : Nat) (hn : n ≤ 1000) (m : Int) (hm : 800 - m = (n : Int)) (w : World) :
    Calls Tryd.prog 62 #[.int .i64 m] w fun e w' => e = .returned (.int .i64 (fluxN n)) ∧ Below w.heap.size w w' := by
  obtain ⟨k, hk⟩ : ∃ k : Nat, k = n % 100 / 10 := ⟨_, rfl⟩
  obtain ⟨k', hk'⟩ : ∃ k' : Nat, k' = k + 1 := ⟨_, rfl⟩
  obtain ⟨r, hr⟩ : ∃ r : Nat, r = n % 10 := ⟨_, rfl⟩
  obtain ⟨q, hq⟩ : ∃ q : Nat, q = n / 100 := ⟨_, rfl⟩
  have hbl : fT k + nearQ ((fT k' - fT k) * (r : Int)) 10 = fB (n % 100) := by
    unfold fB
    rw [hk, hk', hk, hr, show n % 100 % 10 = n % 10 by omega]
  have hbb := fB_bd (n % 100) (by omega)
  have hv : fluxN n = fluxUp (fB (n % 100)) q := by rw [hq]; rfl
  rw [hv]
  have hp := fT_bd k (by omega)
  have hp' := fT_bd k' (by omega)
  have hst := fT_step k (by omega)
  rw [← hk'] at hst
  obtain ⟨W0, hW0⟩ : ∃ W0, W0 = w.alloc (.cells #[.int .i64 1000, .int .i64 1096, .int .i64 1202, .int .i64 1318, .int .i64 1445, .int .i64 1585, .int .i64 1738, .int .i64 1905, .int .i64 2089, .int .i64 2291, .int .i64 2512] 2) := ⟨_, rfl⟩
  have hcell : ∀ j, j < 11 → W0.cell? ⟨w.heap.size, j, none⟩ = some (.int .i64 (fT j)) := by
    intro j hj
    rw [hW0, World.cell?_alloc_at _ _ _ _ (by first | (simp; done) | (simp; omega))]
    rcases (by omega : j = 0 ∨ j = 1 ∨ j = 2 ∨ j = 3 ∨ j = 4 ∨ j = 5 ∨ j = 6 ∨ j = 7 ∨ j = 8 ∨ j = 9 ∨ j = 10) with rfl | rfl | rfl | rfl | rfl | rfl | rfl | rfl | rfl | rfl | rfl <;> rfl
  have c1 := hcell k (by omega)
  have c2 := hcell k' (by omega)
  have HB : Hid (Below w.heap.size w W0) := Lib.hid (by rw [hW0]; exact (Below.refl _ w).alloc (Nat.le_refl _) _)
  have HW := Lib.hid hW0
  have BL := Lib.hid hbl
  have FU := Lib.hid (fun i (hi : i ≤ 10) => fluxUp_le (fB (n % 100)) hbb.1 hbb.2 i hi)
  clear hv hbl hbb hcell hW0
  generalize fB (n % 100) = B at *
  generalize fT k = p at *
  generalize fT k' = p' at *
  have hd : (n : Int) % 100 / 10 = (k : Int) := by omega
  have ek : (k : Int) + 1 = (k' : Int) := by omega
  have er : (n : Int) % 10 = (r : Int) := by omega
  have eq : (n : Int) / 100 = (q : Int) := by omega
  have a0 : (0 : Int) ≤ (k : Int) := by omega
  have a1 : (k : Int) < 11 := by omega
  have b0 : (0 : Int) ≤ (k' : Int) := by omega
  have b1 : (k' : Int) < 11 := by omega
  have hq10 : q ≤ 10 := by omega
  have mk' : IntKind.i64.wrap (k' : Int) = (k' : Int) := IntWalk.i64_in _ (by omega)
  have n0 : (0 : Int) ≤ (n : Int) := by omega
  have n1 : (n : Int) ≤ 1000 := by omega
  have r9 : (r : Int) ≤ 9 := by omega
  clear hk hk' hr hq
  obtain ⟨hp0, hp1⟩ := hp
  obtain ⟨hp0', hp1'⟩ := hp'
  have t0 : 0 ≤ (p' - p) * (r : Int) := Int.mul_nonneg (by omega) (by omega)
  have t1 : (p' - p) * (r : Int) ≤ 1512 * 9 := Int.mul_le_mul (by omega) (by omega) (by omega) (by omega)
  obtain ⟨q0, q1⟩ := nearQ_bd ((p' - p) * (r : Int)) 10 13608 (by omega) (by omega) (by omega)
  have D := Lib.hid (fun w => l01Div_any ((p' - p) * (r : Int)) 10 w (by omega) (by omega) (by omega) (by omega) (by omega))
  generalize nearQ ((p' - p) * (r : Int)) 10 = N at *
  generalize hM : (p' - p) * (r : Int) = M at *
  have m1 : IntKind.i64.wrap (p' - p) = p' - p := IntWalk.i64_in _ (by omega)
  have m2 : IntKind.i64.wrap M = M := IntWalk.i64_in _ (by omega)
  have m3 : IntKind.i64.wrap (p + N) = p + N := IntWalk.i64_in _ (by omega)
  go_enter Tryd.func62, Tryd.ntmps62
  go_wp2_with fail
  rw [← HW.out]
  clear HW
  generalize w.heap.size = g at c1 c2 ⊢
  go_quiet ((go_at_call 80; exact quiet_leftF (D.out _)))
  rename Nat => q2
  clear c1 c2 D
  rw [BL.out]
  clear BL m1 m2 m3 hM
  go_wp2_with fail
  clear hd ek er eq mk' hm
  go_loopg [6, 7] (q + 1) (fun kx s6 s7 wr => ∃ i : Nat, i ≤ q ∧ kx = q + 1 - i ∧ s6 = .int .i64 (fluxUp B i) ∧ s7 = .int .i64 ((q : Int) - (i : Int)) ∧ Hid (Below w.heap.size w wr))
  case atStart => exact ⟨0, Nat.zero_le _, rfl, rfl, by simp, Lib.hid (bel_drewN HB.out _)⟩
  case round =>
    obtain ⟨i, hi, rfl, rfl, rfl, HR⟩ := hrel
    by_cases hlt : i < q
    · have hfu := FU.out i (by omega)
      obtain ⟨f, hf⟩ : ∃ f, f = fluxUp B i := ⟨_, rfl⟩
      have hnx : nearQ (f * 2512) 1000 = fluxUp B (i + 1) := by rw [hf, Int.mul_comm]; rfl
      rw [← hf] at hfu
      obtain ⟨f0, f1⟩ := hfu
      have DV := Lib.hid (fun w => l01Div_any (f * 2512) 1000 w (by omega) (by omega) (by omega) (by omega) (by omega))
      rw [hnx] at DV
      rw [← hf]
      clear hf hnx
      generalize hf' : fluxUp B (i + 1) = f' at *
      have HF := Lib.hid hf'
      clear hf'
      have hgt : (0 : Int) < (q : Int) - (i : Int) := by omega
      go_wp2_with fail
      refine (DV.out _).mono ?_
      rintro e w4 ⟨rfl, rfl⟩
      go_wp2_with fail
      go_roundg (q + 1 - (i + 1))
      case measure => omega
      case rel =>
        exact ⟨i + 1, by omega, rfl, congrArg (Value.int .i64) HF.out.symm, by go_num, HR⟩
    · obtain rfl : i = q := by omega
      clear hlt
      have hgt : ¬ (0 : Int) < (i : Int) - (i : Int) := by omega
      go_wp2_with fail
      go_ret
      exact ⟨rfl, HR.out⟩
end Go.Proofs.YtoellkbmhpekdaaDoor
