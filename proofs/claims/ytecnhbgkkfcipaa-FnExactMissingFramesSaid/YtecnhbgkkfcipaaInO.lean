/-
  Lists of int64 of one's own, whole rows or parts of them, and the law's own helpers on them: eq, mark and held.
-/
import Derived.Test.YtecnhbgkkfcipaaArg0
import Derived.Test.YtecnhbgkkfcipaaMod
import Derived.Test.YtecnhbgkkfcipaaKeep
import Derived.Deep.OwnRows
import Derived.Laws.OwnMore
import Derived.Deep.LoopGhost
import Derived.RegionTactic
import Derived.Deep.QuietTactic
import Derived.BigQuiet
import Derived.Handy
namespace Go.Proofs.Ytecnhbgkkfcipaa.In
open Go.RowKit
set_option linter.unusedVariables false

theorem bel_dI {B : Nat} {a w : World} (h : Below B a w) (n : Nat) : Below B a (w.drewN n) := ⟨h.os, h.tape, h.output, h.size, h.block⟩
/-- v shows these numbers; they lie in a block from B up to C, which none else writes. -/
def Own (w : World) (B C : Nat) (v : Value) (zs : List Int) : Prop :=
  (zs = [] ∧ ∃ a cap, v = .slice a 0 cap) ∨ ∃ g off cap cur, v = .slice (some ⟨g, off, none⟩) zs.length cap ∧ B ≤ g ∧ g < C ∧ w.heap[g]? = some (.cells cur 2 (0, 0)) ∧ ∀ j, (hj : j < zs.length) → cur[off + j]? = some (.int .i64 zs[j])
theorem Own.nil (w : World) (B C : Nat) (a : Option Addr) (cap : Nat) : Own w B C (.slice a 0 cap) [] := Or.inl ⟨rfl, _, _, rfl⟩
theorem Own.len {w : World} {B C : Nat} {v : Value} {zs : List Int} (h : Own w B C v zs) : ∃ a cap, v = .slice a zs.length cap := by
  rcases h with ⟨rfl, a, cap, rfl⟩ | ⟨g, off, cap, cur, rfl, _⟩
  · exact ⟨_, _, rfl⟩
  · exact ⟨_, _, rfl⟩
/-- A part that is not empty: where it lies. -/
structure In (w : World) (B C g off : Nat) (zs : List Int) : Prop where
  lo : B ≤ g
  hi : g < C
  lt : g < w.heap.size
  cell : ∀ j, (hj : j < zs.length) → w.cell? ⟨g, off + j, none⟩ = some (.int .i64 zs[j])
  free : ∀ k, w.frozen? ⟨g, k, none⟩ = false
theorem Own.forms {w : World} {B C : Nat} {v : Value} {zs : List Int} (h : Own w B C v zs) : (zs = [] ∧ ∃ a cap, v = .slice a 0 cap) ∨ ∃ g off cap, v = .slice (some ⟨g, off, none⟩) zs.length cap ∧ In w B C g off zs := by
  rcases h with h | ⟨g, off, cap, cur, rfl, h1, h2, hg, hc⟩
  · exact .inl h
  · exact .inr ⟨g, off, cap, rfl, h1, h2, (Array.getElem?_eq_some_iff.1 hg).1, fun j hj => by simp [World.cell?, hg, hc j hj], fun k => by simp [World.frozen?, hg]⟩
theorem Own.mod {w w' : World} {B C B' C' : Nat} {v : Value} {zs : List Int} (h : Own w B C v zs) (hm : Mod B' C' w w') (hd : C ≤ B' ∨ C' ≤ B) : Own w' B C v zs := by
  rcases h with h | ⟨g, off, cap, cur, rfl, h1, h2, hg, hc⟩
  · exact .inl h
  · exact .inr ⟨g, off, cap, cur, rfl, h1, h2, (hm.block g (Array.getElem?_eq_some_iff.1 hg).1 (by omega)).trans hg, hc⟩
theorem Own.below {w w' : World} {B C : Nat} {v : Value} {zs : List Int} (h : Own w B C v zs) (hb : Below w.heap.size w w') : Own w' B C v zs := by
  rcases h with h | ⟨g, off, cap, cur, rfl, h1, h2, hg, hc⟩
  · exact .inl h
  · exact .inr ⟨g, off, cap, cur, rfl, h1, h2, (hb.block g (Array.getElem?_eq_some_iff.1 hg).1).trans hg, hc⟩
theorem Own.le {w : World} {B B' C C' : Nat} {v : Value} {zs : List Int} (h : Own w B' C' v zs) (hB : B ≤ B') (hC : C' ≤ C) : Own w B C v zs := by
  rcases h with h | ⟨g, off, cap, cur, rfl, h1, h2, hg, hc⟩
  · exact .inl h
  · exact .inr ⟨g, off, cap, cur, rfl, by omega, by omega, hg, hc⟩
/-- The part's cells as a fact of one form (it is not the whole that is asked). -/
def Part (w : World) (B C g off cap : Nat) (zs : List Int) : Prop := ∃ cur, B ≤ g ∧ g < C ∧ w.heap[g]? = some (.cells cur 2 (0, 0)) ∧ ∀ j, (hj : j < zs.length) → cur[off + j]? = some (.int .i64 zs[j])
theorem Part.own {w : World} {B C g off cap : Nat} {zs : List Int} (h : Part w B C g off cap zs) : Own w B C (.slice (some ⟨g, off, none⟩) zs.length cap) zs := by
  obtain ⟨cur, h1, h2, hg, hc⟩ := h
  exact .inr ⟨g, off, cap, cur, rfl, h1, h2, hg, hc⟩
theorem Own.parts {w : World} {B C : Nat} {v : Value} {zs : List Int} (h : Own w B C v zs) : (zs = [] ∧ ∃ a cap, v = .slice a 0 cap) ∨ ∃ g off cap, v = .slice (some ⟨g, off, none⟩) zs.length cap ∧ Part w B C g off cap zs := by
  rcases h with h | ⟨g, off, cap, cur, rfl, h1, h2, hg, hc⟩
  · exact .inl h
  · exact .inr ⟨g, off, cap, rfl, cur, h1, h2, hg, hc⟩
theorem Part.bd {w : World} {B C g off cap : Nat} {zs : List Int} (h : Part w B C g off cap zs) : B ≤ g ∧ g < C ∧ g < w.heap.size := by
  obtain ⟨cur, h1, h2, hg, hc⟩ := h
  exact ⟨h1, h2, (Array.getElem?_eq_some_iff.1 hg).1⟩
theorem Part.cell {w : World} {B C g off cap : Nat} {zs : List Int} (h : Part w B C g off cap zs) (j : Nat) (hj : j < zs.length) : w.cell? ⟨g, off + j, none⟩ = some (.int .i64 zs[j]) := by
  obtain ⟨cur, h1, h2, hg, hc⟩ := h
  simp [World.cell?, hg, hc j hj]
theorem Part.free {w : World} {B C g off cap : Nat} {zs : List Int} (h : Part w B C g off cap zs) (k : Nat) : w.frozen? ⟨g, k, none⟩ = false := by
  obtain ⟨cur, h1, h2, hg, hc⟩ := h
  simp [World.frozen?, hg]
theorem Part.below {w w' : World} {B C g off cap : Nat} {zs : List Int} (h : Part w B C g off cap zs) (hb : Below w.heap.size w w') : Part w' B C g off cap zs := by
  obtain ⟨cur, h1, h2, hg, hc⟩ := h
  exact ⟨cur, h1, h2, (hb.block g (Array.getElem?_eq_some_iff.1 hg).1).trans hg, hc⟩
theorem Part.put {w : World} {B C g off cap : Nat} {zs : List Int} (h : Part w B C g off cap zs) (j : Nat) (hj : j < zs.length) (x : Int) : Part (w.setCell ⟨g, off + j, none⟩ (.int .i64 x)) B C g off cap (zs.set j x) := by
  obtain ⟨cur, h1, h2, hg, hc⟩ := h
  refine ⟨cur.setIfInBounds (off + j) (.int .i64 x), h1, h2, heap_setCell_same w g (off + j) cur _ _ hg, fun i hi => ?_⟩
  rw [List.length_set] at hi
  have hl : off + j < cur.size := by
    have := hc j hj
    exact (Array.getElem?_eq_some_iff.1 this).1
  rw [Array.getElem?_setIfInBounds]
  by_cases c : j = i
  · subst c
    simp [hl]
  · have : ¬ off + j = off + i := by omega
    rw [if_neg this, hc i hi, List.getElem_set_ne c]
/-- A whole row that one has appended to or made. -/
theorem Own.of_row {w : World} {B : Nat} {v : Value} {zs : List Int} (h : w.ownsRow B 2 1 v zs.length (zs.map fun x => .int .i64 x)) : Own w B w.heap.size v zs := by
  rcases h.2 with ⟨rfl, h0⟩ | ⟨g, cap, cur, rfl, hg, hh, hn, hcm, hsz, htk⟩
  · exact .inl ⟨List.length_eq_zero_iff.1 h0, _, _, rfl⟩
  · refine .inr ⟨g, 0, cap, cur, rfl, hg, (Array.getElem?_eq_some_iff.1 hh).1, hh, fun j hj => ?_⟩
    have e : (zs.map fun x => Value.int .i64 x)[j]? = some (.int .i64 zs[j]) := by rw [List.getElem?_map, List.getElem?_eq_getElem hj]; rfl
    rw [← htk, List.getElem?_take, if_pos (by omega)] at e
    rw [Nat.zero_add, ← Array.getElem?_toList]
    exact e
/-- A part of a part. -/
theorem Part.sub {w : World} {B C g cap cap' : Nat} {zs : List Int} (h : Part w B C g 0 cap zs) (a b : Nat) (hab : a ≤ b) (hb : b ≤ zs.length) : Part w B C g a cap' ((zs.drop a).take (b - a)) := by
  obtain ⟨cur, h1, h2, hg, hc⟩ := h
  refine ⟨cur, h1, h2, hg, fun j hj => ?_⟩
  have hl : ((zs.drop a).take (b - a)).length = b - a := by rw [List.length_take, List.length_drop]; omega
  rw [hl] at hj
  have := hc (a + j) (by omega)
  rw [Nat.zero_add] at this
  rw [this]
  simp

set_option maxHeartbeats 400000 in
theorem eqS_empty (a a' : Option Addr) (cap cap' : Nat) (w : World) :
    Calls Try.prog 42 #[.slice a 0 cap, .slice a' 0 cap'] w fun e w' => e = .returned (.bool true) ∧ Below w.heap.size w w' := by
  go_enter Try.func42, Try.ntmps42
  go_wp2_with fail
  go_loop [5] (fun i => i = .int .i64 0) (fun _ => 0)
  case atStart => rfl
  case round =>
    subst hrel
    go_wp2_with fail
    go_ret
    exact ⟨rfl, Below.refl _ _⟩
set_option maxRecDepth 100000 in
set_option maxHeartbeats 1000000 in
theorem eqS_full (B C B' C' g g' off off' cap cap' : Nat) (zs : List Int) (w : World) (hb : zs.length ≤ 1048577) (h1 : Part w B C g off cap zs) (h2 : Part w B' C' g' off' cap' zs) :
    Calls Try.prog 42 #[.slice (some ⟨g, off, none⟩) zs.length cap, .slice (some ⟨g', off', none⟩) zs.length cap'] w fun e w' => e = .returned (.bool true) ∧ Below w.heap.size w w' := by
  have H1 := Lib.hid h1
  have H2 := Lib.hid h2
  clear h1 h2
  go_enter Try.func42, Try.ntmps42
  go_wp2_with fail
  go_loopg [5] (zs.length + 1) (fun kx s5 wr => ∃ j : Nat, s5 = .int .i64 (j : Int) ∧ j ≤ zs.length ∧ kx = zs.length + 1 - j ∧ Hid (Below w.heap.size w wr))
  case atStart => exact ⟨0, rfl, Nat.zero_le _, rfl, Lib.hid (Below.refl _ _)⟩
  case round =>
    obtain ⟨j, rfl, hj, rfl, HB⟩ := hrel
    by_cases hlt : j < zs.length
    · have c0 := (H1.out.below HB.out).cell j hlt
      have d0 := (H2.out.below HB.out).cell j hlt
      generalize zs[j] = x at *
      have j0 : (0 : Int) ≤ (j : Int) := by omega
      have j1 : (j : Int) < (zs.length : Int) := by omega
      go_wp2_with fail
      go_quiet (fail)
      rename Nat => q1
      go_wp2_with fail
      go_roundg (zs.length + 1 - (j + 1))
      case measure => omega
      case rel => exact ⟨j + 1, by go_num, by omega, by omega, Lib.hid (bel_dI HB.out _)⟩
    · obtain rfl : j = zs.length := by omega
      go_wp2_with fail
      go_ret
      exact ⟨rfl, HB.out⟩
theorem eqO_any {B B' C C' : Nat} {v u : Value} {zs : List Int} {w : World} (hb : zs.length ≤ 1048576) (h1 : Own w B C v zs) (h2 : Own w B' C' u zs) :
    Calls Try.prog 42 #[v, u] w fun e w' => e = .returned (.bool true) ∧ Below w.heap.size w w' := by
  by_cases hz : zs = []
  · subst hz
    obtain ⟨a, c, rfl⟩ := h1.len
    obtain ⟨a', c', rfl⟩ := h2.len
    exact eqS_empty a a' c c' w
  · rcases h1.parts with ⟨h, _⟩ | ⟨g, off, cap, rfl, p1⟩
    · exact absurd h hz
    rcases h2.parts with ⟨h, _⟩ | ⟨g', off', cap', rfl, p2⟩
    · exact absurd h hz
    exact eqS_full _ _ _ _ g g' off off' cap cap' zs w (by omega) p1 p2

/-- The marks from k on. -/
def marksS (k : Nat) (n : Nat) : List Int := (List.range n).map (fun j => ((k + j : Nat) : Int))
theorem marksS_len (k n : Nat) : (marksS k n).length = n := by simp [marksS]
theorem marksS_get (k n j : Nat) (hj : j < (marksS k n).length) : (marksS k n)[j] = ((k + j : Nat) : Int) := by simp [marksS]
theorem marksS_succ (k n : Nat) : marksS k (n + 1) = marksS k n ++ [((k + n : Nat) : Int)] := by simp [marksS, List.range_succ]
def markedS (k : Nat) (zs : List Int) (j : Nat) : List Int := marksS k j ++ zs.drop j
theorem markedS_len (k : Nat) (zs : List Int) (j : Nat) (h : j ≤ zs.length) : (markedS k zs j).length = zs.length := by
  unfold markedS
  rw [List.length_append, marksS_len, List.length_drop]
  omega
theorem markedS_set (k : Nat) (zs : List Int) (j : Nat) (h : j < zs.length) : (markedS k zs j).set j ((k + j : Nat) : Int) = markedS k zs (j + 1) := by
  unfold markedS
  rw [marksS_succ, List.drop_eq_getElem_cons h, List.set_append_right _ _ (by rw [marksS_len]; omega), marksS_len, Nat.sub_self, List.set_cons_zero, List.append_assoc]
  rfl
theorem markedS_done (k : Nat) (zs : List Int) : markedS k zs zs.length = marksS k zs.length := by
  unfold markedS
  rw [List.drop_length, List.append_nil]
theorem markedS_zero (k : Nat) (zs : List Int) : markedS k zs 0 = zs := by simp [markedS, marksS]

set_option maxHeartbeats 400000 in
theorem markO_empty (a : Option Addr) (ca : Nat) (k : Int) (w : World) :
    Calls Try.prog 43 #[.slice a 0 ca, .int .i64 k] w fun e w' => e = .returned (.int .i64 k) ∧ w = w' := by
  go_enter Try.func43, Try.ntmps43
  go_wp2_with fail
  go_loop [1, 5] (fun t i => i = .int .i64 0 ∧ t = .int .i64 k) (fun _ _ => 0)
  case atStart => exact ⟨rfl, rfl⟩
  case round =>
    obtain ⟨rfl, rfl⟩ := hrel
    go_wp2_with fail
    go_ret
    exact ⟨rfl, rfl⟩
set_option maxRecDepth 100000 in
set_option maxHeartbeats 2000000 in
theorem markO_full (k0 : Nat) (hk0 : 1 ≤ k0) (hk1 : k0 ≤ 2251799813685248) (B C g off cap : Nat) (zs : List Int) (w : World) (hb : zs.length ≤ 1048577) (h1 : Part w B C g off cap zs) :
    Calls Try.prog 43 #[.slice (some ⟨g, off, none⟩) zs.length cap, .int .i64 (k0 : Int)] w fun e w' => e = .returned (.int .i64 ((k0 : Int) + (zs.length : Int))) ∧ Part w' B C g off cap (marksS k0 zs.length) ∧ Mod B C w w' := by
  have hBg := h1.bd
  have H1 : Hid (Part w B C g off cap (markedS k0 zs 0)) := Lib.hid (by rw [markedS_zero]; exact h1)
  have ML := Lib.hid (markedS_len k0 zs)
  have MS := Lib.hid (markedS_set k0 zs)
  have MD := Lib.hid (markedS_done k0 zs)
  clear h1
  generalize markedS k0 zs = M at *
  go_enter Try.func43, Try.ntmps43
  go_wp2_with fail
  go_loopg [1, 5] (zs.length + 1) (fun kx s1 s5 wr => ∃ (j : Nat), s1 = .int .i64 ((k0 : Int) + (j : Int)) ∧ s5 = .int .i64 (j : Int) ∧ j ≤ zs.length ∧ kx = zs.length + 1 - j ∧ Hid (Part wr B C g off cap (M j)) ∧ Hid (Mod B C w wr))
  case atStart => exact ⟨0, by go_num, rfl, Nat.zero_le _, rfl, H1, Lib.hid (Mod.refl _ _ _)⟩
  case round =>
    obtain ⟨j, rfl, rfl, hj, rfl, HR, HB⟩ := hrel
    by_cases hlt : j < zs.length
    · have j0 : (0 : Int) ≤ (j : Int) := by omega
      have j1 : (j : Int) < (zs.length : Int) := by omega
      have hml := ML.out j hj
      have hR2 := HR.out
      have d0 := hR2.cell j (by omega)
      have f0 := hR2.free (off + j)
      have PU : Hid (Part (wr.setCell ⟨g, off + j, none⟩ (.int .i64 ((k0 : Int) + (j : Int)))) B C g off cap (M (j + 1))) := Lib.hid (by
        have h := hR2.put j (by omega) ((k0 + j : Nat) : Int)
        rw [MS.out j hlt, Int.natCast_add] at h
        exact h)
      have PM : Hid (Mod B C w (wr.setCell ⟨g, off + j, none⟩ (.int .i64 ((k0 : Int) + (j : Int))))) := Lib.hid (HB.out.setCell hBg.1 hBg.2.1 _)
      generalize (M j)[j]'(by omega) = y at d0
      clear hR2
      go_wp2_with fail
      go_roundg (zs.length + 1 - (j + 1))
      case measure => omega
      case rel => exact ⟨j + 1, by go_num, by go_num, by omega, by omega, PU, PM⟩
    · obtain rfl : j = zs.length := by omega
      have ho := HR.out
      rw [MD.out] at ho
      go_wp2_with fail
      go_ret
      exact ⟨rfl, ho, HB.out⟩
theorem markO_any (k0 : Nat) (hk0 : 1 ≤ k0) (hk1 : k0 ≤ 2251799813685248) {B C : Nat} {v : Value} {zs : List Int} {w : World} (hb : zs.length ≤ 1048577) (h1 : Own w B C v zs) :
    Calls Try.prog 43 #[v, .int .i64 (k0 : Int)] w fun e w' => e = .returned (.int .i64 ((k0 : Int) + (zs.length : Int))) ∧ Own w' B C v (marksS k0 zs.length) ∧ Mod B C w w' := by
  rcases h1.parts with ⟨rfl, a, cap, rfl⟩ | ⟨g, off, cap, rfl, p⟩
  · refine (markO_empty a cap (k0 : Int) w).mono fun e w' ⟨he, hw⟩ => ?_
    subst hw
    exact ⟨by rw [he]; exact ret_int (by simp), .inl ⟨rfl, _, _, rfl⟩, Mod.refl _ _ _⟩
  · refine (markO_full k0 hk0 hk1 B C g off cap zs w hb p).mono fun e w' ⟨he, hp, hm⟩ => ⟨he, ?_, hm⟩
    have h := hp.own
    rw [marksS_len] at h
    exact h

set_option maxHeartbeats 400000 in
theorem heldO_empty (a : Option Addr) (ca : Nat) (k : Int) (w : World) :
    Calls Try.prog 44 #[.slice a 0 ca, .int .i64 k] w fun e w' => e = .returned (.int .i64 k) ∧ w = w' := by
  go_enter Try.func44, Try.ntmps44
  go_wp2_with fail
  go_loop [1, 5] (fun t i => i = .int .i64 0 ∧ t = .int .i64 k) (fun _ _ => 0)
  case atStart => exact ⟨rfl, rfl⟩
  case round =>
    obtain ⟨rfl, rfl⟩ := hrel
    go_wp2_with fail
    go_ret
    exact ⟨rfl, rfl⟩
set_option maxRecDepth 100000 in
set_option maxHeartbeats 2000000 in
theorem heldO_full (k0 : Nat) (hk0 : 1 ≤ k0) (hk1 : k0 ≤ 2251799813685248) (B C g off cap n : Nat) (w : World) (hb : n ≤ 1048577) (h1 : Part w B C g off cap (marksS k0 n)) :
    Calls Try.prog 44 #[.slice (some ⟨g, off, none⟩) n cap, .int .i64 (k0 : Int)] w fun e w' => e = .returned (.int .i64 ((k0 : Int) + (n : Int))) ∧ w = w' := by
  have H1 : Hid (∀ j, j < n → w.cell? ⟨g, off + j, none⟩ = some (.int .i64 ((k0 : Int) + (j : Int)))) := Lib.hid (by
    intro j hj
    have := h1.cell j (by rw [marksS_len]; exact hj)
    rwa [marksS_get, Int.natCast_add] at this)
  clear h1
  go_enter Try.func44, Try.ntmps44
  go_wp2_with fail
  go_loop [1, 5] (fun t i => ∃ j : Nat, i = .int .i64 (j : Int) ∧ t = .int .i64 ((k0 : Int) + (j : Int)) ∧ j ≤ n) (fun _ i => n - (intOf i).toNat)
  case atStart => exact ⟨0, rfl, by go_num, Nat.zero_le _⟩
  case round =>
    obtain ⟨j, rfl, rfl, hj⟩ := hrel
    by_cases hlt : j < n
    · have j0 : (0 : Int) ≤ (j : Int) := by omega
      have j1 : (j : Int) < (n : Int) := by omega
      have c0 := H1.out j hlt
      go_wp2_with fail
      go_round
      case rel => exact ⟨j + 1, by go_num, by go_num, by omega⟩
      case measure => (simp [intOf] <;> omega)
    · obtain rfl : j = n := by omega
      go_wp2_with fail
      go_ret
      exact ⟨rfl, rfl⟩
theorem heldO_any (k0 : Nat) (hk0 : 1 ≤ k0) (hk1 : k0 ≤ 2251799813685248) {B C n : Nat} {v : Value} {w : World} (hb : n ≤ 1048577) (h1 : Own w B C v (marksS k0 n)) :
    Calls Try.prog 44 #[v, .int .i64 (k0 : Int)] w fun e w' => e = .returned (.int .i64 ((k0 : Int) + (n : Int))) ∧ w = w' := by
  rcases h1.parts with ⟨h0, a, cap, rfl⟩ | ⟨g, off, cap, rfl, p⟩
  · have : n = 0 := by have := marksS_len k0 n; rw [h0] at this; exact this.symm
    subst this
    refine (heldO_empty a cap (k0 : Int) w).mono fun e w' ⟨he, hw⟩ => ?_
    exact ⟨by rw [he]; exact ret_int (by simp), hw⟩
  · rw [marksS_len]
    exact heldO_full k0 hk0 hk1 B C g off cap n w hb p
theorem markO_int (m : Int) (k0 : Nat) (hn : m = (k0 : Int)) (hk0 : 1 ≤ k0) (hk1 : k0 ≤ 2251799813685248) {B C : Nat} {v : Value} {zs : List Int} {w : World} (hb : zs.length ≤ 1048577) (h1 : Own w B C v zs) :
    Calls Try.prog 43 #[v, .int .i64 m] w fun e w' => e = .returned (.int .i64 ((k0 : Int) + (zs.length : Int))) ∧ Own w' B C v (marksS k0 zs.length) ∧ Mod B C w w' := by
  subst hn
  exact markO_any k0 hk0 hk1 hb h1
theorem heldO_int (m : Int) (k0 : Nat) (hn : m = (k0 : Int)) (hk0 : 1 ≤ k0) (hk1 : k0 ≤ 2251799813685248) {B C n : Nat} {v : Value} {w : World} (hb : n ≤ 1048577) (h1 : Own w B C v (marksS k0 n)) :
    Calls Try.prog 44 #[v, .int .i64 m] w fun e w' => e = .returned (.int .i64 ((k0 : Int) + (n : Int))) ∧ w = w' := by
  subst hn
  exact heldO_any k0 hk0 hk1 hb h1
end Go.Proofs.Ytecnhbgkkfcipaa.In
