/-
  The two maps of FigureParts: a part of its own, a star that goes over, a part that goes.
-/
import Derived.Test.YtfjhlapcopjfiaaPart1
namespace Go.Proofs.Ytfjhlapcopjfiaa
open Go.RowKit
set_option linter.unusedVariables false

def rowO (x : Int) : Obj := .cells #[.int .i64 x] 2
theorem PW.add {w0 wr : World} {B b1 b2 : Nat} {K : List Int} {G cap : Int → Nat} (h : PW w0 wr B b1 b2 K (fun x => x) K (fun k => [k]) G cap) (hK : K.Nodup) (x : Int) (hx : x ∉ K) :
    ∃ w2 w3, (Instr.mapUpdate 106 (.map (some b1)) (.int .i64 x) (.int .i64 x)).run Try.prog (wr.alloc (rowO x)) = .ok () w2 ∧
      (Instr.mapUpdate 107 (.map (some b2)) (.int .i64 x) (.slice (some ⟨wr.heap.size, 0, none⟩) 1 1)).run Try.prog w2 = .ok () w3 ∧
      PW w0 w3 B b1 b2 (K ++ [x]) (fun x => x) (K ++ [x]) (fun k => [k]) (fun k => if k = x then wr.heap.size else G k) (fun k => if k = x then 1 else cap k) ∧
      ∀ b, b < wr.heap.size → b ≠ b1 → b ≠ b2 → w3.heap[b]? = wr.heap[b]? := by
  have hba : Below wr.heap.size wr (wr.alloc (rowO x)) := (Below.refl _ _).alloc (Nat.le_refl _) _
  have ha := h.below hba
  obtain ⟨w2, r2, im2, g2⟩ := ha.p1.put hK Try.underlying106 Try.underlying2 x (.int .i64 x)
  rw [if_neg hx] at im2
  have p2b := ha.p2.gb g2 h.ne.symm
  obtain ⟨w3, r3, im3, g3⟩ := p2b.put hK Try.underlying107 Try.underlying2 x (.slice (some ⟨wr.heap.size, 0, none⟩) 1 1)
  rw [if_neg hx] at im3
  have on : (wr.alloc (rowO x)).ownsRow B 2 1 (.slice (some ⟨wr.heap.size, 0, none⟩) 1 1) 1 [Value.int .i64 x] := World.ownsRow_lit wr #[.int .i64 x] 1 h.size (by decide) rfl
  have n1 := ha.p1.off_own on
  have n2 := ha.p2.off_own on
  have on3 := own_gb (own_gb on g2 (Ne.symm n1)) g3 (Ne.symm n2)
  have glt : ∀ k, k ∈ K → G k < wr.heap.size := fun k hk => ((h.own k hk).lt _ rfl).2
  have hne : ∀ k, k ∈ K → k ≠ x := fun k hk e => hx (by rw [← e]; exact hk)
  refine ⟨w2, w3, r2, r3, ⟨?_, ?_, h.ne, h.lo, ?_, ?_, ?_, ?_⟩, ?_⟩
  · exact (ha.bel.grown g2 ha.size (fun k hk => by cases hk; exact h.lo.1)).grown g3 (Nat.le_trans ha.size g2.size) (fun k hk => by cases hk; exact h.lo.2)
  · exact Nat.le_trans ha.size (Nat.le_trans g2.size g3.size)
  · refine (im2.gb g3 h.ne).congr (fun k _ => ?_)
    by_cases c : k = x
    · rw [if_pos c, c]
    · rw [if_neg c]
  · refine im3.congr (fun k _ => ?_)
    by_cases c : k = x
    · rw [if_pos c, if_pos c, if_pos c]; rfl
    · rw [if_neg c, if_neg c, if_neg c]
  · intro k hk
    rcases List.mem_append.1 hk with hk | hk
    · have c := hne k hk
      rw [if_neg c, if_neg c]
      exact own_gb (own_gb (ha.own k hk) g2 (Ne.symm (ha.p1.off_own (ha.own k hk)))) g3 (Ne.symm (ha.p2.off_own (ha.own k hk)))
    · rw [List.mem_singleton] at hk
      subst hk
      rw [if_pos rfl, if_pos rfl]
      exact on3
  · intro k k' hk hk' e
    rcases List.mem_append.1 hk with m | m <;> rcases List.mem_append.1 hk' with m' | m'
    · rw [if_neg (hne k m), if_neg (hne k' m')] at e
      exact h.dis k k' m m' e
    · rw [List.mem_singleton] at m'
      subst m'
      rw [if_neg (hne k m), if_pos rfl] at e
      have := glt k m
      omega
    · rw [List.mem_singleton] at m
      subst m
      rw [if_neg (hne k' m'), if_pos rfl] at e
      have := glt k' m'
      omega
    · rw [List.mem_singleton] at m m'
      rw [m, m']
  · intro b hb h1 h2
    rw [g3.block b (by have := g2.size; have := hba.size; omega) (by simpa using h2), g2.block b (by have := hba.size; omega) (by simpa using h1), hba.block b hb]

theorem PW.over {w0 wr : World} {B b1 b2 : Nat} {E K : List Int} {lb : Int → Int} {C : Int → List Int} {G cap : Int → Nat} (h : PW w0 wr B b1 b2 E lb K C G cap) (hE : E.Nodup) (hK : K.Nodup) (a x : Int) (ha : a ∈ K) (hx : x ∈ E) :
    ∃ w1, (Instr.mapUpdate 106 (.map (some b1)) (.int .i64 x) (.int .i64 a)).run Try.prog wr = .ok () w1 ∧
      (Instr.lookup 107 (.map (some b2)) (.int .i64 a) false).run Try.prog w1 = .ok (.slice (some ⟨G a, 0, none⟩) (C a).length (cap a)) w1 ∧
      w1.ownsRow B 2 1 (.slice (some ⟨G a, 0, none⟩) (C a).length (cap a)) (C a).length ((C a).map (Value.int .i64)) ∧ Below B w0 w1 ∧ B ≤ w1.heap.size ∧
      ∀ gg cap2 w3, w3.ownsRow B 2 1 (.slice (some ⟨gg, 0, none⟩) ((C a).length + 1) cap2) ((C a).length + 1) ((C a).map (Value.int .i64) ++ [.int .i64 x]) → (w1.alloc (rowO x)).grownBy w3 (some (G a)) → (G a = gg ∨ gg = w1.heap.size + 1) →
        ∃ w4, (Instr.mapUpdate 107 (.map (some b2)) (.int .i64 a) (.slice (some ⟨gg, 0, none⟩) ((C a).length + 1) cap2)).run Try.prog w3 = .ok () w4 ∧
          PW w0 w4 B b1 b2 E (fun y => if y = x then a else lb y) K (fun k => if k = a then C a ++ [x] else C k) (fun k => if k = a then gg else G k) (fun k => if k = a then cap2 else cap k) := by
  obtain ⟨w1, r1, im1, g1⟩ := h.p1.put hE Try.underlying106 Try.underlying2 x (.int .i64 a)
  rw [if_pos hx] at im1
  have p2a := h.p2.gb g1 h.ne.symm
  have o1 : ∀ k, k ∈ K → w1.ownsRow B 2 1 (.slice (some ⟨G k, 0, none⟩) (C k).length (cap k)) (C k).length ((C k).map (Value.int .i64)) := fun k hk => own_gb (h.own k hk) g1 (Ne.symm (h.p1.off_own (h.own k hk)))
  have b1w : Below B w0 w1 := h.bel.grown g1 h.size (fun k hk => by cases hk; exact h.lo.1)
  have s1 : B ≤ w1.heap.size := Nat.le_trans h.size g1.size
  refine ⟨w1, r1, p2a.get Try.underlying107 Try.underlying2 a ha, o1 a ha, b1w, s1, ?_⟩
  intro gg cap2 w3 on hg hl
  have hba : Below w1.heap.size w1 (w1.alloc (rowO x)) := (Below.refl _ _).alloc (Nat.le_refl _) _
  have n1 : b1 ≠ G a := im1.off_own (o1 a ha)
  have n2 : b2 ≠ G a := p2a.off_own (o1 a ha)
  have im3 := (im1.below hba).gb hg n1
  have p23 := (p2a.below hba).gb hg n2
  obtain ⟨w4, r4, im4, g4⟩ := p23.put hK Try.underlying107 Try.underlying2 a (.slice (some ⟨gg, 0, none⟩) ((C a).length + 1) cap2)
  rw [if_pos ha] at im4
  have n3 := p23.off_own on
  have ba : Below B w0 (w1.alloc (rowO x)) := b1w.alloc s1 _
  have sa : B ≤ (w1.alloc (rowO x)).heap.size := Nat.le_trans s1 hba.size
  have ga : B ≤ G a := ((h.own a ha).lt _ rfl).1
  have glt : ∀ k, k ∈ K → G k < w1.heap.size := fun k hk => ((o1 k hk).lt _ rfl).2
  refine ⟨w4, r4, ⟨?_, ?_, h.ne, h.lo, ?_, ?_, ?_, ?_⟩⟩
  · exact (ba.grown hg sa (fun k hk => by cases hk; exact ga)).grown g4 (Nat.le_trans sa hg.size) (fun k hk => by cases hk; exact h.lo.2)
  · exact Nat.le_trans sa (Nat.le_trans hg.size g4.size)
  · refine (im3.gb g4 h.ne).congr (fun k _ => ?_)
    by_cases c : k = x
    · rw [if_pos c, if_pos c]
    · rw [if_neg c, if_neg c]
  · refine im4.congr (fun k _ => ?_)
    by_cases c : k = a
    · rw [if_pos c, if_pos c, if_pos c, if_pos c, List.length_append]; rfl
    · rw [if_neg c, if_neg c, if_neg c, if_neg c]
  · intro k hk
    by_cases c : k = a
    · subst c
      rw [if_pos rfl, if_pos rfl, if_pos rfl, List.length_append, List.map_append]
      exact own_gb on g4 (Ne.symm n3)
    · rw [if_neg c, if_neg c, if_neg c]
      have hk1 : G k ≠ G a := fun e => c (h.dis k a hk ha e)
      have oa : (w1.alloc (rowO x)).ownsRow B 2 1 (.slice (some ⟨G k, 0, none⟩) (C k).length (cap k)) (C k).length ((C k).map (Value.int .i64)) := (o1 k hk).alloc _
      have o3 := own_gb oa hg hk1
      exact own_gb o3 g4 (Ne.symm (p23.off_own o3))
  · intro k k' hk hk' e
    by_cases c : k = a <;> by_cases c' : k' = a
    · rw [c, c']
    · rw [if_pos c, if_neg c'] at e
      have := glt k' hk'
      rcases hl with hl | hl
      · exact c.trans (h.dis a k' ha hk' (hl.trans e))
      · omega
    · rw [if_neg c, if_pos c'] at e
      have := glt k hk
      rcases hl with hl | hl
      · exact (h.dis k a hk ha (e.trans hl.symm)).trans c'.symm
      · omega
    · rw [if_neg c, if_neg c'] at e
      exact h.dis k k' hk hk' e

theorem PW.gone {w0 wr : World} {B b1 b2 : Nat} {E K : List Int} {lb : Int → Int} {C : Int → List Int} {G cap : Int → Nat} (h : PW w0 wr B b1 b2 E lb K C G cap) (hK : K.Nodup) (b : Int) (hb : b ∈ K) :
    ∃ w', (∀ ty, (Builtin.delete_ #[107, 2] ty #[.map (some b2), .int .i64 b]).run Try.prog wr = .ok (.tuple #[]) w') ∧ PW w0 w' B b1 b2 E lb (K.filter (fun y => decide (y ≠ b))) C G cap := by
  obtain ⟨w4, r4, im4, g4⟩ := h.p2.drop hK Try.underlying107 Try.underlying2 b hb
  refine ⟨w4, r4, ⟨h.bel.grown g4 h.size (fun k hk => by cases hk; exact h.lo.2), Nat.le_trans h.size g4.size, h.ne, h.lo, h.p1.gb g4 h.ne, im4, fun k hk => ?_, fun k k' hk hk' => h.dis k k' (List.mem_filter.1 hk).1 (List.mem_filter.1 hk').1⟩⟩
  have hk := (List.mem_filter.1 hk).1
  exact own_gb (h.own k hk) g4 (Ne.symm (h.p2.off_own (h.own k hk)))
end Go.Proofs.Ytfjhlapcopjfiaa
