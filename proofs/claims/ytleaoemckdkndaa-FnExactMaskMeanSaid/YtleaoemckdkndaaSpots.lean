/-
  Rows of pairs, each a slice of its own: the contract of l10Spots (package spec).
-/
import Derived.Test.YtleaoemckdkndaaUpsM
import Derived.Test.YtleaoemckdkndaaVec0
import Derived.Deep.AppendLies
import Derived.Deep.LoopGhost
import Derived.RegionTactic
import Derived.WideMake
import Derived.Deep.RegionHeld3
import Derived.Deep.OwnRows
import Derived.IntWalk
import Derived.Handy
namespace Go.Proofs.Ytleaoemckdkndaa
open Go.RowKit
set_option linter.unusedVariables false

theorem info_i64s : (Try.prog.info? 58).map (fun i => (i.zero, i.size, i.bytes)) = some (some (.slice none 0 0), 1, 24) := by kernel_rfl
def pairV (bs : Nat → Nat) (j : Nat) : Value := .slice (some ⟨bs j, 0, none⟩) 2 2
/-- A row of pairs of one's own. -/
structure SpotsAt (w : World) (B : Nat) (v : Value) (L : List (Int × Int)) (bs : Nat → Nat) : Prop where
  own : w.ownsRow B 58 1 v L.length ((List.range L.length).map (pairV bs))
  cell : ∀ j, (h : j < L.length) → B ≤ bs j ∧ w.heap[bs j]? = some (.cells #[.int .i64 L[j].1, .int .i64 L[j].2] 2 (0, 0)) ∧ some (bs j) ≠ v.ownBlock
  rise : ∀ i j, i < j → j < L.length → bs i < bs j
theorem SpotsAt.lt {w : World} {B : Nat} {v : Value} {L : List (Int × Int)} {bs : Nat → Nat} (h : SpotsAt w B v L bs) (j : Nat) (hj : j < L.length) : bs j < w.heap.size := by
  have := (h.cell j hj).2.1
  exact (Array.getElem?_eq_some_iff.1 this).1
theorem SpotsAt.below {w w' : World} {B : Nat} {v : Value} {L : List (Int × Int)} {bs : Nat → Nat} (h : SpotsAt w B v L bs) (hb : Below w.heap.size w w') : SpotsAt w' B v L bs :=
  ⟨h.own.kept (⟨hb.os, hb.tape, hb.output, hb.size, fun k hk _ => hb.block k hk⟩ : w.grownBy w' none) (by cases hv : v.ownBlock <;> simp),
   fun j hj => ⟨(h.cell j hj).1, (hb.block _ (h.lt j hj)).trans (h.cell j hj).2.1, (h.cell j hj).2.2⟩, h.rise⟩
theorem SpotsAt.pair {w : World} {B : Nat} {v : Value} {L : List (Int × Int)} {bs : Nat → Nat} (h : SpotsAt w B v L bs) (j : Nat) (hj : j < L.length) :
    w.cell? ⟨bs j, 0, none⟩ = some (.int .i64 L[j].1) ∧ w.cell? ⟨bs j, 1, none⟩ = some (.int .i64 L[j].2) := by
  have := (h.cell j hj).2.1
  constructor <;> simp [World.cell?, this]
theorem SpotsAt.at {w : World} {B : Nat} {v : Value} {L : List (Int × Int)} {bs : Nat → Nat} (h : SpotsAt w B v L bs) (hn : 0 < L.length) : ∃ g cap, v = .slice (some ⟨g, 0, none⟩) L.length cap ∧ ∀ j, j < L.length → w.cell? ⟨g, j, none⟩ = some (pairV bs j) := by
  obtain ⟨h1, ⟨_, hz⟩ | ⟨g, cap, cur, rfl, _, hg, hnc, _, hsz, hx⟩⟩ := h.own
  · omega
  · refine ⟨g, cap, rfl, fun j hj => ?_⟩
    have hc : cur.toList[j]? = some (pairV bs j) := by
      have e : (cur.toList.take (L.length * 1))[j]? = some (pairV bs j) := by
        rw [hx, List.getElem?_map, List.getElem?_range hj]
        rfl
      rw [List.getElem?_take] at e
      split at e
      · exact e
      · cases e
    rw [Array.getElem?_toList] at hc
    simp [World.cell?, hg, hc]
theorem SpotsAt.next {w w5 : World} {B : Nat} {v : Value} {L : List (Int × Int)} {bs : Nat → Nat} {a h : Int} {o : Obj} {gg cap : Nat} (H : SpotsAt w B v L bs) (hB : B ≤ w.heap.size)
    (hg : ((w.alloc (.cells #[.int .i64 a, .int .i64 h] 2)).alloc o).grownBy w5 v.ownBlock) (hl : v.ownBlock = some gg ∨ gg = w.heap.size + 2)
    (hown : w5.ownsRow B 58 1 (.slice (some ⟨gg, 0, none⟩) (L.length + 1) cap) (L.length + 1) ((List.range L.length).map (pairV bs) ++ [.slice (some ⟨w.heap.size, 0, none⟩) 2 2])) :
    SpotsAt w5 B (.slice (some ⟨gg, 0, none⟩) (L.length + 1) cap) (L ++ [(a, h)]) (fun k => if k = L.length then w.heap.size else bs k) := by
  have hlen : (L ++ [(a, h)]).length = L.length + 1 := by simp
  have hob : ∀ k, v.ownBlock = some k → k < w.heap.size := fun k hk => (H.own.lt k hk).2
  refine ⟨?_, ?_, ?_⟩
  · rw [hlen, List.range_succ, List.map_append]
    have e : (List.range L.length).map (pairV (fun k => if k = L.length then w.heap.size else bs k)) = (List.range L.length).map (pairV bs) := by
      apply List.map_congr_left
      intro k hk
      have := List.mem_range.1 hk
      show Value.slice (some ⟨if k = L.length then w.heap.size else bs k, 0, none⟩) 2 2 = Value.slice (some ⟨bs k, 0, none⟩) 2 2
      rw [if_neg (by omega)]
    rw [e]
    simpa [pairV] using hown
  · intro j hj
    rw [hlen] at hj
    by_cases c : j = L.length
    · subst c
      simp only [if_true]
      refine ⟨hB, ?_, ?_⟩
      · rw [hg.block w.heap.size (by simp; omega) (fun e => by have := hob _ e.symm; omega)]
        rw [heap_alloc_old _ _ (by simp), heap_alloc_new]
        simp
      · intro e
        have e2 : w.heap.size = gg := by simpa [Value.ownBlock] using e
        rcases hl with hl | hl
        · have := hob _ hl
          omega
        · omega
    · have hj' : j < L.length := by omega
      obtain ⟨c1, c2, c3⟩ := H.cell j hj'
      have hlt := H.lt j hj'
      simp only [if_neg c]
      refine ⟨c1, ?_, ?_⟩
      · rw [hg.block (bs j) (by simp; omega) c3, heap_alloc_old _ _ (by simp; omega), heap_alloc_old _ _ (by omega), c2, List.getElem_append_left hj']
      · intro e
        have e2 : bs j = gg := by simpa [Value.ownBlock] using e
        rcases hl with hl | hl
        · exact c3 (by rw [hl, e2])
        · omega
  · intro i j hij hj
    rw [hlen] at hj
    show (if i = L.length then w.heap.size else bs i) < (if j = L.length then w.heap.size else bs j)
    rw [if_neg (show ¬ i = L.length by omega)]
    by_cases c : j = L.length
    · rw [if_pos c]
      exact H.lt i (by omega)
    · rw [if_neg c]
      exact H.rise i j hij (by omega)
end Go.Proofs.Ytleaoemckdkndaa
