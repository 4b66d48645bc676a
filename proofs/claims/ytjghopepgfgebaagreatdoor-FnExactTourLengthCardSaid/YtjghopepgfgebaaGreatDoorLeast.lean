/-
  The least angle of a direction: the contracts of leastArc and of its closure (package impl).
-/
import Derived.Test.YtjghopepgfgebaaGreatDoorFirst
import Derived.Test.YtjghopepgfgebaaGreatDoorSin
import Derived.Deep.RegionWith
import Derived.Deep.RegionHeld3
import Derived.Deep.MidRow
import Derived.Deep.CutBlock
import Derived.Deep.QuietTactic
import Derived.BigQuiet
namespace Go.Proofs.YtjghopepgfgebaaGreatDoor
open Go.RowKit
set_option linter.unusedVariables false

theorem undrew' {W u : World} (h : Below W.drew.heap.size W.drew u) : Below W.heap.size W u := ⟨h.os, h.tape, h.output, h.size, h.block⟩
theorem drewB (W : World) : Below W.heap.size W W.drew := ⟨rfl, rfl, rfl, Nat.le_refl _, fun _ _ => rfl⟩
theorem keepC {w W W' : World} {b0 b1 : Nat} {x y : Value} (h : W.cell? ⟨b0, 0, none⟩ = some x ∧ W.cell? ⟨b1, 0, none⟩ = some y ∧ Below w.heap.size w W) (hb : Below W.heap.size W W') :
    W'.cell? ⟨b0, 0, none⟩ = some x ∧ W'.cell? ⟨b1, 0, none⟩ = some y ∧ Below w.heap.size w W' :=
  ⟨(hb.cell (p := ⟨b0, 0, none⟩) (World.block_lt_of_cell? W ⟨b0, 0, none⟩ h.1)).trans h.1, (hb.cell (p := ⟨b1, 0, none⟩) (World.block_lt_of_cell? W ⟨b1, 0, none⟩ h.2.1)).trans h.2.1, h.2.2.trans (hb.mono h.2.2.size)⟩
theorem big_bd (s v : Int) (s0 : -1000000 ≤ s) (s1 : s ≤ 1000000) (v0 : 0 ≤ v) (v1 : v ≤ 1000000000000) : -1000000000000000000 ≤ s * v ∧ s * v ≤ 1000000000000000000 := by
  have h1 : s * v ≤ 1000000 * v := Int.mul_le_mul_of_nonneg_right s1 v0
  have h2 : -1000000 * v ≤ s * v := Int.mul_le_mul_of_nonneg_right s0 v0
  omega

set_option maxHeartbeats 1000000 in
theorem leastArc_in (b0 b1 : Nat) (u v a : Int) (w : World) (a0 : -360000 ≤ a) (a1 : a ≤ 360000) (u0 : 0 ≤ u) (u1 : u ≤ 1000000000000) (v0 : 0 ≤ v) (v1 : v ≤ 1000000000000) (hs : SinesOK w)
    (h0 : w.cell? ⟨b0, 0, none⟩ = some (.int .i64 u)) (h1 : w.cell? ⟨b1, 0, none⟩ = some (.int .i64 v)) :
    Calls Tryz.prog 173 (#[.int .i64 a] ++ #[.pointer (some ⟨b1, 0, none⟩), .pointer (some ⟨b0, 0, none⟩)]) w fun e w' => e = .returned (.bool (decide (cosI a * u ≤ sinI a * v))) ∧ Below w.heap.size w w' := by
  have HD := Lib.hid (hs.below (w' := w.drew) ⟨rfl, rfl, rfl, Nat.le_refl _, fun _ _ => rfl⟩)
  have F := Lib.hid (fun W h => sine_any a (by omega) (by omega) W h)
  have G := Lib.hid (fun W h => cosine_any a (by omega) (by omega) W h)
  obtain ⟨s0, s1⟩ := sinI_bd a
  obtain ⟨c0, c1⟩ := cosI_bd a
  clear hs
  generalize sinI a = s at *
  generalize cosI a = c at *
  obtain ⟨p0, p1⟩ := big_bd s v s0 s1 v0 v1
  obtain ⟨q0, q1⟩ := big_bd c u c0 c1 u0 u1
  have m1 : IntKind.i64.wrap (s * v) = s * v := IntWalk.i64_in _ (by omega)
  have m2 : IntKind.i64.wrap (c * u) = c * u := IntWalk.i64_in _ (by omega)
  clear s0 s1 c0 c1 p0 p1 q0 q1 u0 u1 v0 v1
  have k : Hid (w.cell? ⟨b0, 0, none⟩ = some (.int .i64 u) ∧ w.cell? ⟨b1, 0, none⟩ = some (.int .i64 v) ∧ Below w.heap.size w w) := Lib.hid ⟨h0, h1, Below.refl _ _⟩
  go_enter Tryz.func173, Tryz.ntmps173
  go_wp2_with fail
  go_region_held3 (fun w' => w'.cell? ⟨b0, 0, none⟩ = some (.int .i64 u) ∧ w'.cell? ⟨b1, 0, none⟩ = some (.int .i64 v) ∧ Below w.heap.size w w') (first | (exact keepC k.out (drewB w)) | (exact keepC k.out y2) | (exact keepC k.out y1) | go_keep) ((first
    | (go_at_call 170; refine (F.out _ HD.out).mono ?_; rintro e x1 ⟨rfl, hx1⟩; have y1 := undrew' hx1; have hs1 := HD.out.below hx1)
    | (go_at_call 171; refine (G.out _ hs1).mono ?_; rintro e x2 ⟨rfl, hx2⟩; have y2 := y1.trans (hx2.mono y1.size))))
  rename_i held
  have HB := Lib.hid held.2.2
  clear held
  go_wp2_with fail
  go_ret
  exact ⟨rfl, HB.out⟩

set_option maxRecDepth 100000 in
theorem idx91 (A : Array Value) (hA : A.size = 91) (k : Nat) (hk : k < 91) (w : World) : (Instr.index 184 (.agg A) (.int .i64 k)).run Tryz.prog w = .ok (A.getD k undef) w := by
  have hs : Tryz.prog.types[2].size = 1 := by kernel_rfl
  simp [Instr.index, run_underlying Tryz.underlying184, asIntOf, go_sem, hA, hk]

/-- The search between two whole degrees. -/
theorem leastTail (u v : Int) (u0 : 0 ≤ u) (uv : u ≤ v) (v1 : v ≤ 1000000000000) (k : Nat) (hk : k ≤ 45) (hlow : ∀ i, i < k → ¬ tab (90 - i) * u ≤ tab i * v) (hz : tab (90 - k) * u ≤ tab k * v) (g : Nat) (W : World) (hs : SinesOK W)
    (c0 : W.cell? ⟨g, 0, none⟩ = some (.int .i64 u)) (c1 : W.cell? ⟨g + 1, 0, none⟩ = some (.int .i64 v)) (low : Int) (hl : low = if k = 0 then 0 else (k : Int) * 1000 - 1000) :
    Calls Tryz.prog 172 #[.int .i64 low, .int .i64 ((k : Int) * 1000), .func (.func 173) #[] #[.pointer (some ⟨g + 1, 0, none⟩), .pointer (some ⟨g, 0, none⟩)]] W
      fun e w' => e = .returned (.int .i64 (arcN u v : Nat)) ∧ Below W.heap.size W w' := by
  obtain ⟨l, n, e1, e2, hln, hL, hH⟩ : ∃ l n : Nat, low = (l : Int) ∧ (k : Int) * 1000 = (l : Int) + n ∧ l + n ≤ 45000 ∧ (l = 0 ∨ ¬ cosI (l : Int) * u ≤ sinI (l : Int) * v) ∧ cosI ((l + n : Nat) : Int) * u ≤ sinI ((l + n : Nat) : Int) * v := by
    have hH : cosI ((k * 1000 : Nat) : Int) * u ≤ sinI ((k * 1000 : Nat) : Int) * v := by
      rw [show ((k * 1000 : Nat) : Int) = 1000 * (k : Int) by omega, cos_whole k (by omega), sin_whole k (by omega)]
      exact hz
    by_cases c : k = 0
    · subst c
      exact ⟨0, 0, by rw [hl, if_pos rfl]; rfl, by omega, by omega, .inl rfl, hH⟩
    · refine ⟨(k - 1) * 1000, 1000, by rw [hl, if_neg c]; omega, by omega, by omega, .inr ?_, by rw [show (k - 1) * 1000 + 1000 = k * 1000 by omega]; exact hH⟩
      have := hlow (k - 1) (by omega)
      rw [show (((k - 1) * 1000 : Nat) : Int) = 1000 * ((k - 1 : Nat) : Int) by omega, cos_whole (k - 1) (by omega), sin_whole (k - 1) (by omega)]
      exact this
  have hA := arc_part u v u0 (by omega) l n hln hL (.inr hH)
  rw [e1, e2, show ((arcN u v : Nat) : Int) = (l : Int) + (cnt n (pArc u v l) : Nat) by omega]
  exact firstAngle_any (l : Int) ((l : Int) + n) n 173 #[.pointer (some ⟨g + 1, 0, none⟩), .pointer (some ⟨g, 0, none⟩)] (pArc u v l) W (by omega) (by omega) rfl (by omega)
    (enters_of Tryz.func173 (by kernel_rfl) rfl)
    (fun W' i hb hi => leastArc_in g (g + 1) u v ((l : Int) + (i : Int)) W' (by omega) (by omega) u0 (by omega) (by omega) v1 (hs.below hb)
      ((hb.cell (p := ⟨g, 0, none⟩) (World.block_lt_of_cell? W ⟨g, 0, none⟩ c0)).trans c0) ((hb.cell (p := ⟨g + 1, 0, none⟩) (World.block_lt_of_cell? W ⟨g + 1, 0, none⟩ c1)).trans c1))
    (pArc_mono u v l n u0 (by omega) (by omega) (by omega))
theorem drewNB (W : World) (n : Nat) : Below W.heap.size W (W.drewN n) := ⟨rfl, rfl, rfl, Nat.le_refl _, fun _ _ => rfl⟩

set_option maxRecDepth 100000 in
set_option maxHeartbeats 2000000 in
theorem leastArc_any (u v : Int) (u0 : 0 ≤ u) (uv : u ≤ v) (v1 : v ≤ 1000000000000) (w : World) (hs : SinesOK w) :
    Calls Tryz.prog 156 #[.int .i64 u, .int .i64 v] w fun e w' => e = .returned (.int .i64 (arcN u v : Nat)) ∧ Below w.heap.size w w' := by
  obtain ⟨W0, hW0⟩ : ∃ W0, W0 = (w.alloc (.cells #[.int .i64 u] 2)).alloc (.cells #[.int .i64 v] 2) := ⟨_, rfl⟩
  have hB : Below w.heap.size w W0 := by rw [hW0]; exact ((Below.refl _ w).alloc (Nat.le_refl _) _).alloc (by simp) _
  have HC : Hid (W0.cell? ⟨w.heap.size, 0, none⟩ = some (.int .i64 u) ∧ W0.cell? ⟨w.heap.size + 1, 0, none⟩ = some (.int .i64 v) ∧ Below w.heap.size w W0) := Lib.hid (by
    refine ⟨?_, ?_, hB⟩
    · rw [hW0]; simp
    · rw [hW0]; simp)
  have hs0 := hs.below hB
  have HW := Lib.hid hW0
  obtain ⟨cs, hcs⟩ : ∃ cs : List Value, cs = sinT.map (fun z => Value.int .i64 z) := ⟨_, rfl⟩
  have hlen : cs.length = 91 := by rw [hcs]; rfl
  have hget : Hid (∀ k, k < 91 → cs.toArray.getD k undef = .int .i64 (tab k)) := Lib.hid (by
    intro k hk
    rw [hcs]
    simp only [Array.getD, List.size_toArray, List.length_map]
    have h91 : sinT.length = 91 := rfl
    rw [dif_pos (by omega)]
    simp [tab, List.getD, List.getElem?_eq_getElem (by omega : k < sinT.length)])
  have hr : W0.rangeAt 0 0 cs := by
    intro j x hx
    rw [hcs, List.getElem?_map] at hx
    by_cases hj : j < 91
    · rw [List.getElem?_eq_getElem (by exact hj), Option.map_some, Option.some.injEq] at hx
      rw [Nat.zero_add, hs0.2 j hj, ← hx]
      simp [tab, List.getD, List.getElem?_eq_getElem (show j < sinT.length from hj)]
      rfl
    · rw [List.getElem?_eq_none (by show 91 ≤ j; omega)] at hx
      cases hx
  have hz45 : tab 45 * u ≤ tab 45 * v := Int.mul_le_mul_of_nonneg_left uv (by decide)
  have hsa : Hid (cs.toArray.size = 91) := Lib.hid (by simpa using hlen)
  have HS := Lib.hid hs0
  have H45 := Lib.hid hz45
  clear hcs hW0 hs hs0 hB hz45
  go_enter Tryz.func156, Tryz.ntmps156
  go_upto_region 2 with fail
  rw [← HW.out]
  clear HW
  refine wp_region_lit (wpList_load_mid rfl 184 _ rfl 0 0 rfl cs _ hr Tryz.underlying184 rfl (by rw [hlen]; kernel_rfl) ?_)
  clear hr hlen
  generalize cs.toArray = A at *
  go_wp2_with fail
  go_loopg [10] 46 (fun kx s10 wr => ∃ k : Nat, k ≤ 45 ∧ kx = 46 - k ∧ s10 = .int .i64 k ∧ Hid (∀ i, i < k → ¬ tab (90 - i) * u ≤ tab i * v) ∧ Hid (wr.cell? ⟨w.heap.size, 0, none⟩ = some (.int .i64 u) ∧ wr.cell? ⟨w.heap.size + 1, 0, none⟩ = some (.int .i64 v) ∧ Below w.heap.size w wr) ∧ Hid (SinesOK wr))
  case atStart => exact ⟨0, by omega, rfl, rfl, Lib.hid (fun i hi => by omega), HC, HS⟩
  case round =>
    obtain ⟨k, hk, rfl, rfl, hbefore, S, HSr⟩ := hrel
    have ix : ∀ w : World, (Instr.index 184 (.agg A) (.int .i64 k)).run Tryz.prog w = .ok (.int .i64 (tab k)) w := fun w => by rw [idx91 A hsa.out k (by omega) w, hget.out k (by omega)]
    obtain ⟨j, hj⟩ : ∃ j : Nat, j = 90 - k := ⟨_, rfl⟩
    have ej : (90 : Int) - (k : Int) = (j : Int) := by omega
    have cj := HSr.out.2 j (by omega)
    obtain ⟨cu, cv, _⟩ := S.out
    have bj := tab_bd j (by omega)
    have bk := tab_bd k (by omega)
    have P1 := big_bd (tab k) v (by omega) (by omega) (by omega) v1
    have P2 := big_bd (tab j) u (by omega) (by omega) u0 (by omega)
    have hk0 : (0 : Int) ≤ (k : Int) := by omega
    have hk1 : (k : Int) < 91 := by omega
    have hj0 : (0 : Int) ≤ (j : Int) := by omega
    have hj1 : (j : Int) < 91 := by omega
    have HJ := Lib.hid hj
    by_cases hz : tab j * u ≤ tab k * v
    · have T := fun (W : World) (hb : Below wr.heap.size wr W) (low : Int) hl => leastTail u v u0 uv v1 k hk hbefore.out (by rw [← hj]; exact hz) w.heap.size W (HSr.out.below hb) (keepC S.out hb).1 (keepC S.out hb).2.1 low hl
      have TT := Lib.hid T
      clear T hj
      generalize tab k = x at *
      generalize tab j = y at *
      have m1 : IntKind.i64.wrap (x * v) = x * v := IntWalk.i64_in _ (by omega)
      have m2 : IntKind.i64.wrap (y * u) = y * u := IntWalk.i64_in _ (by omega)
      have hzd : decide (y * u ≤ x * v) = true := by simpa using hz
      by_cases hk2 : k = 0
      · have T2 := Lib.hid (fun W hb => TT.out W hb 0 (by rw [if_pos hk2]))
        have hlt : (k : Int) * 1000 - 1000 < 0 := by omega
        clear TT hk2
        go_wp2_with fail
        go_quiet (fail)
        rename Nat => q1
        clear cj cu cv ix
        go_wp2_with fail
        refine (T2.out _ (drewNB wr q1)).mono ?_
        rintro e w2 ⟨rfl, hb⟩
        have HB := Lib.hid (S.out.2.2.trans (((drewNB wr q1).trans (hb.mono (drewNB wr q1).size)).mono S.out.2.2.size))
        clear hb
        go_wp2_with fail
        go_ret
        exact ⟨rfl, HB.out⟩
      · have T2 := Lib.hid (fun W hb => TT.out W hb ((k : Int) * 1000 - 1000) (by rw [if_neg hk2]))
        have hlt : ¬ (k : Int) * 1000 - 1000 < 0 := by omega
        have hle : 0 ≤ (k : Int) * 1000 - 1000 := by omega
        clear TT hk2
        go_wp2_with fail
        go_quiet (fail)
        rename Nat => q1
        clear cj cu cv ix
        go_wp2_with fail
        refine (T2.out _ (drewNB wr q1)).mono ?_
        rintro e w2 ⟨rfl, hb⟩
        have HB := Lib.hid (S.out.2.2.trans (((drewNB wr q1).trans (hb.mono (drewNB wr q1).size)).mono S.out.2.2.size))
        clear hb
        go_wp2_with fail
        go_ret
        exact ⟨rfl, HB.out⟩
    · have hk45 : k < 45 := by
        by_cases c : k = 45
        · exfalso
          subst c
          rw [show j = 45 by omega] at hz
          exact hz H45.out
        · omega
      have hnext : Hid (∀ i, i < k + 1 → ¬ tab (90 - i) * u ≤ tab i * v) := Lib.hid (by
        intro i hi
        by_cases c : i = k
        · subst c
          rw [← hj]
          exact hz
        · exact hbefore.out i (by omega))
      clear hj
      generalize tab k = x at *
      generalize tab j = y at *
      have m1 : IntKind.i64.wrap (x * v) = x * v := IntWalk.i64_in _ (by omega)
      have m2 : IntKind.i64.wrap (y * u) = y * u := IntWalk.i64_in _ (by omega)
      have hzd : decide (y * u ≤ x * v) = false := by simpa using hz
      go_wp2_with fail
      go_quiet (fail)
      rename Nat => q1
      go_wp2_with fail
      go_roundg (46 - (k + 1))
      case measure => omega
      case rel => exact ⟨k + 1, by omega, rfl, by go_num, hnext, Lib.hid (keepC S.out (drewNB wr q1)), Lib.hid (HSr.out.below (drewNB wr q1))⟩
end Go.Proofs.YtjghopepgfgebaaGreatDoor
