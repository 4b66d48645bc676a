/-
  Magnitudes: the contracts of FluxOf and MagnitudeOf (both packages), of isMagnitude and of the search's closure (package impl) and of l05Magnitude (package spec).
-/
import Derived.Test.YtoellkbmhpekdaaDoorFlux
import Derived.Test.YtoellkbmhpekdaaDoorSrch
import Derived.Test.YtoellkbmhpekdaaDoorVec0
import Derived.Deep.RegionHeld3
namespace Go.Proofs.YtoellkbmhpekdaaDoor
open Go.RowKit
set_option linter.unusedVariables false

def fluxV (m : Int) : Value := if inR (-200) 800 [m] = true then .tuple #[.int .i64 (fluxN (800 - m).toNat), .int .i64 0] else .tuple #[.int .i64 0, .int .i64 2]
theorem fluxV_form (m : Int) : ∃ x y : Int, fluxV m = .tuple #[.int .i64 x, .int .i64 y] := by
  unfold fluxV
  split
  · exact ⟨_, _, rfl⟩
  · exact ⟨_, _, rfl⟩
def magV (f : Int) : Value := if inR 1 1000000000000 [f] = true then (if magN f < 1001 then .tuple #[.int .i64 (800 - (magN f : Int)), .int .i64 0] else .tuple #[.int .i64 0, .int .i64 6]) else .tuple #[.int .i64 0, .int .i64 2]
theorem magV_form (f : Int) : ∃ x y : Int, magV f = .tuple #[.int .i64 x, .int .i64 y] := by
  unfold magV
  split
  · split
    · exact ⟨_, _, rfl⟩
    · exact ⟨_, _, rfl⟩
  · exact ⟨_, _, rfl⟩

set_option maxHeartbeats 400000 in
theorem isMagF_any (a : Int) (w : World) :
    Calls Tryd.prog 119 #[.int .i64 a] w fun e w' => e = .returned (.bool (inR (-200) 800 [a])) ∧ Below w.heap.size w w' := by
  go_enter Tryd.func119, Tryd.ntmps119
  go_wp2_with fail
  refine (within1 _ _ a _ _ _ (by simp)).mono ?_
  rintro e w' ⟨rfl, rfl⟩
  go_wp2_with fail
  go_ret
  refine ⟨rfl, ?_⟩
  repeat (first | exact Below.refl _ _ | refine Below.setCell ?_ (by first | (simp; done) | omega | (simp; omega)) _ | refine Below.alloc ?_ (by first | (simp; done) | omega | (simp; omega)) _ | refine bel_drew ?_)

theorem keepM {w W W' : World} {b : Nat} {x : Value} (h : W.cell? ⟨b, 0, none⟩ = some x ∧ Below w.heap.size w W) (hb : Below W.heap.size W W') : W'.cell? ⟨b, 0, none⟩ = some x ∧ Below w.heap.size w W' :=
  ⟨(hb.cell (p := ⟨b, 0, none⟩) (World.block_lt_of_cell? W ⟨b, 0, none⟩ h.1)).trans h.1, h.2.trans (hb.mono h.2.size)⟩
theorem undrewM {W u : World} (h : Below W.drew.heap.size W.drew u) : Below W.heap.size W u := ⟨h.os, h.tape, h.output, h.size, h.block⟩
theorem drewM (W : World) : Below W.heap.size W W.drew := ⟨rfl, rfl, rfl, Nat.le_refl _, fun _ _ => rfl⟩

set_option maxHeartbeats 1000000 in
theorem mag_in (b i : Nat) (f : Int) (hi : i < 1001) (w : World) (hf : FluxOK w) (h0 : w.cell? ⟨b, 0, none⟩ = some (.int .i64 f)) :
    Calls Tryd.prog 97 (#[.int .i64 (i : Int)] ++ #[.pointer (some ⟨b, 0, none⟩)]) w fun e w' => e = .returned (.bool (decide (f ≤ fluxN i))) ∧ Below w.heap.size w w' := by
  have HD := Lib.hid (hf.below (drewM w))
  have F := Lib.hid (fun w hf => fluxAbove_any i (by omega) w hf)
  clear hf
  generalize fluxN i = z at *
  have k : Hid (w.cell? ⟨b, 0, none⟩ = some (.int .i64 f) ∧ Below w.heap.size w w) := Lib.hid ⟨h0, Below.refl _ _⟩
  go_enter Tryd.func97, Tryd.ntmps97
  go_wp2_with fail
  go_region_held3 (fun w' => w'.cell? ⟨b, 0, none⟩ = some (.int .i64 f) ∧ Below w.heap.size w w') (first | (exact keepM k.out (drewM w)) | (exact keepM k.out y1) | go_keep) ((first
    | (go_at_call 64; refine (F.out _ HD.out).mono ?_; rintro e x1 ⟨rfl, hx1⟩; have y1 := undrewM hx1)))
  rename_i held
  have HB := Lib.hid held.2
  clear held
  go_wp2_with fail
  go_ret
  exact ⟨rfl, HB.out⟩

set_option maxHeartbeats 1000000 in
theorem implMag_any (f : Int) (w : World) (hf : FluxOK w) :
    Calls Tryd.prog 65 #[.int .i64 f] w fun e w' => e = .returned (magV f) ∧ Below w.heap.size w w' := by
  unfold magV
  cases hi : inR 1 1000000000000 [f] with
  | false =>
    rw [if_neg (by simp)]
    have HI := Lib.hid hi
    clear hi hf
    go_enter Tryd.func65, Tryd.ntmps65
    go_wp2_with fail
    refine (within1 _ _ f _ _ _ (by simp)).mono ?_
    rintro e w' ⟨rfl, rfl⟩
    rw [HI.out]
    go_wp2_with fail
    go_ret2
    refine ⟨rfl, ?_⟩
    repeat (first | exact Below.refl _ _ | refine Below.setCell ?_ (by first | (simp; done) | omega | (simp; omega)) _ | refine Below.alloc ?_ (by first | (simp; done) | omega | (simp; omega)) _ | refine bel_drew ?_)
  | true =>
    rw [if_pos rfl]
    obtain ⟨W0, hW0⟩ : ∃ W0, W0 = (w.alloc (.cells #[.int .i64 f] 2)).alloc (.cells #[.int .i64 f] 2) := ⟨_, rfl⟩
    have hB : Below w.heap.size w W0 := by rw [hW0]; exact ((Below.refl _ w).alloc (Nat.le_refl _) _).alloc (by simp) _
    have hc : W0.cell? ⟨w.heap.size, 0, none⟩ = some (.int .i64 f) := by rw [hW0]; simp
    have hf0 := hf.below hB
    have hS := search_any 97 #[.pointer (some ⟨w.heap.size, 0, none⟩)] 1001 (fun n => decide (f ≤ fluxN n)) W0
      (enters_of Tryd.func97 (by kernel_rfl) rfl) (by omega)
      (fun W i hb hi => mag_in w.heap.size i f hi W (hf0.below hb) ((hb.cell (p := ⟨w.heap.size, 0, none⟩) (World.block_lt_of_cell? W0 ⟨w.heap.size, 0, none⟩ hc)).trans hc))
      (mag_mono f)
    have hle := magN_le f
    change Calls Tryd.prog _ _ W0 (fun e w' => e = .returned (.int .i64 ((magN f : Nat) : Int)) ∧ _) at hS
    generalize magN f = n at *
    have HS := Lib.hid hS
    have HI := Lib.hid hi
    have HB := Lib.hid hB
    have HW := Lib.hid hW0
    clear hS hi hB hW0 hf hf0 hc
    by_cases hn : n < 1001
    · rw [if_pos hn]
      have hne : ¬ (n : Int) = 1001 := by omega
      go_enter Tryd.func65, Tryd.ntmps65
      go_wp2_with fail
      refine (within1 _ _ f _ _ _ (by simp)).mono ?_
      rintro e w' ⟨rfl, rfl⟩
      rw [HI.out]
      go_wp2_with fail
      rw [← HW.out]
      refine HS.out.mono ?_
      rintro e w1 ⟨rfl, hb⟩
      have HB1 := Lib.hid (HB.out.trans (hb.mono HB.out.size))
      clear hb
      go_wp2_with fail
      go_ret2
      exact ⟨rfl, HB1.out⟩
    · rw [if_neg hn]
      obtain rfl : n = 1001 := by omega
      go_enter Tryd.func65, Tryd.ntmps65
      go_wp2_with fail
      refine (within1 _ _ f _ _ _ (by simp)).mono ?_
      rintro e w' ⟨rfl, rfl⟩
      rw [HI.out]
      go_wp2_with fail
      rw [← HW.out]
      refine HS.out.mono ?_
      rintro e w1 ⟨rfl, hb⟩
      have HB1 := Lib.hid (HB.out.trans (hb.mono HB.out.size))
      clear hb
      go_wp2_with fail
      go_ret2
      exact ⟨rfl, HB1.out⟩

set_option maxHeartbeats 1000000 in
theorem l05Mag_any (f : Int) (w : World) :
    Calls Tryd.prog 63 #[.int .i64 f] w fun e w' => e = .returned (.int .i64 (800 - (magN f : Int))) ∧ Below w.heap.size w w' := by
  have MI := Lib.hid (mag_iff f)
  have hle := magN_le f
  generalize magN f = c at *
  go_enter Tryd.func63, Tryd.ntmps63
  go_wp2_with fail
  go_loopg [3] 1002 (fun kx s3 wr => ∃ k : Nat, k ≤ c ∧ kx = 1002 - k ∧ s3 = .int .i64 (800 - (k : Int)) ∧ Hid (Below w.heap.size w wr))
  case atStart => exact ⟨0, Nat.zero_le _, by omega, by simp, Lib.hid (Below.refl _ _)⟩
  case round =>
    obtain ⟨k, hk, rfl, rfl, HR⟩ := hrel
    by_cases h1 : k < 1001
    · have F := Lib.hid (fun w => l05Flux_any k (by omega) (800 - (k : Int)) (by omega) w)
      have hge : -200 ≤ 800 - (k : Int) := by omega
      by_cases h2 : k < c
      · have hlt : fluxN k < f := by have := mt (MI.out k h1).1 (by omega); omega
        generalize fluxN k = z at *
        go_wp2_with fail
        refine (F.out _).mono ?_
        rintro e w1 ⟨rfl, hb⟩
        have HB1 := Lib.hid (HR.out.trans (hb.mono HR.out.size))
        clear hb
        go_wp2_with fail
        go_roundg (1002 - (k + 1))
        case measure => omega
        case rel => exact ⟨k + 1, by omega, by omega, congrArg (Value.int .i64) (by omega), HB1⟩
      · obtain rfl : c = k := by omega
        have hlt : ¬ fluxN c < f := by have := (MI.out c h1).2 (Nat.le_refl _); omega
        generalize fluxN c = z at *
        go_wp2_with fail
        refine (F.out _).mono ?_
        rintro e w1 ⟨rfl, hb⟩
        have HB1 := Lib.hid (HR.out.trans (hb.mono HR.out.size))
        clear hb
        go_wp2_with fail
        go_ret
        exact ⟨rfl, HB1.out⟩
    · obtain rfl : c = k := by omega
      have hge : ¬ -200 ≤ 800 - (c : Int) := by omega
      go_wp2_with fail
      go_ret
      exact ⟨rfl, HR.out⟩

end Go.Proofs.YtoellkbmhpekdaaDoor
