/-
  Maps with numbers as keys, as lists of keys with a value for each: a look, a store, delete, len.
-/
import Derived.Test.YtfjhlapcopjfiaaEndsI
import Derived.Maps.OwnOps
import Derived.MapKept
namespace Go.Proofs.Ytfjhlapcopjfiaa
open Go.RowKit
set_option linter.unusedVariables false

/-- Block b holds a map with these keys, in this order, and these values. -/
def IM (w : World) (b : Nat) (K : List Int) (V : Int → Value) : Prop :=
  ∃ es c, w.heap[b]? = some (.map es c) ∧ es.toList.map (fun e => (e.key, e.val)) = K.map (fun k => (Value.int .i64 k, V k))
theorem IM.of_block {w w' : World} {b : Nat} {K : List Int} {V : Int → Value} (h : IM w b K V) (hb : w'.heap[b]? = w.heap[b]?) : IM w' b K V := by
  obtain ⟨es, c, h1, h2⟩ := h
  exact ⟨es, c, hb.trans h1, h2⟩
theorem IM.lt {w : World} {b : Nat} {K : List Int} {V : Int → Value} (h : IM w b K V) : b < w.heap.size := by
  obtain ⟨es, c, h1, h2⟩ := h
  exact (Array.getElem?_eq_some_iff.1 h1).1
theorem IM.below {w w' : World} {b : Nat} {K : List Int} {V : Int → Value} (h : IM w b K V) (hb : Below w.heap.size w w') : IM w' b K V := h.of_block (hb.block b h.lt)
theorem IM.congr {w : World} {b : Nat} {K : List Int} {V V' : Int → Value} (h : IM w b K V) (e : ∀ k, k ∈ K → V k = V' k) : IM w b K V' := by
  obtain ⟨es, c, h1, h2⟩ := h
  refine ⟨es, c, h1, h2.trans (List.map_congr_left fun k hk => by rw [e k hk])⟩
theorem IM.off {w : World} {b g : Nat} {K : List Int} {V : Int → Value} {cs : Array Value} {T : TypeId} {x : Nat × Nat} (h : IM w b K V) (hg : w.heap[g]? = some (.cells cs T x)) : b ≠ g := by
  intro e
  subst e
  obtain ⟨es, c, h1, h2⟩ := h
  rw [hg] at h1
  cases h1
theorem IM.off_own {w : World} {b g B n cap : Nat} {e : TypeId} {K : List Int} {V : Int → Value} {xs : List Value} (h : IM w b K V) (ho : w.ownsRow B e 1 (.slice (some ⟨g, 0, none⟩) n cap) n xs) : b ≠ g := by
  rcases ho.2 with ⟨hv, _⟩ | ⟨g1, cap1, cur, hv, _, hh, _⟩
  · cases hv
  · injection hv with h1 h2 h3
    injection h1 with h1
    injection h1 with h1
    subst h1
    exact h.off hh
theorem im_new (w : World) : IM (w.alloc (.map #[] 0)) w.heap.size [] (fun _ => undef) := ⟨#[], 0, heap_alloc_new w _, rfl⟩

theorem sameInt (k a : Int) : Instr.sameNow (.int .i64) (.int .i64 k) (.int .i64 a) = some (k == a) := by simp [Instr.sameNow]
theorem find_im (V : Int → Value) (k : Int) : ∀ (K : List Int) (l : List MapEntry) (i : Nat), l.map (fun e => (e.key, e.val)) = K.map (fun k => (Value.int .i64 k, V k)) →
    (k ∉ K → Instr.findNow (.int .i64) (.int .i64 k) l i = some none) ∧ (k ∈ K → ∃ j, j < K.length ∧ K[j]? = some k ∧ Instr.findNow (.int .i64) (.int .i64 k) l i = some (some (i + j, V k)))
  | [], l, i, h => by
    have : l = [] := by simpa using h
    subst this
    exact ⟨fun _ => rfl, fun h => by cases h⟩
  | k0 :: K, l, i, h => by
    cases l with
    | nil => simp at h
    | cons e l =>
      simp only [List.map_cons, List.cons.injEq, Prod.mk.injEq] at h
      obtain ⟨⟨h1, h2⟩, h3⟩ := h
      have ih := find_im V k K l (i + 1) h3
      unfold Instr.findNow
      rw [h1, sameInt]
      by_cases c : k = k0
      · subst c
        rw [beq_self_eq_true]
        refine ⟨fun hn => absurd (List.mem_cons_self ..) hn, fun _ => ⟨0, by simp, rfl, ?_⟩⟩
        show some (some (i, e.val)) = _
        rw [h2]
        rfl
      · have e1 : (k == k0) = false := by simpa using c
        rw [e1]
        refine ⟨fun hn => ih.1 (fun hm => hn (List.mem_cons_of_mem _ hm)), fun hm => ?_⟩
        obtain ⟨j, hj, hk, hf⟩ := ih.2 (by rcases List.mem_cons.1 hm with h | h; exact absurd h c; exact h)
        exact ⟨j + 1, by simp; omega, hk, by show Instr.findNow (.int .i64) (.int .i64 k) l (i + 1) = _; rw [hf]; congr 3; omega⟩

section
variable {P : Program} {t k e : TypeId}
theorem IM.get {w : World} {b : Nat} {K : List Int} {V : Int → Value} (h : IM w b K V) (ht : P.underlying t = some (.map k e)) (hk : P.underlying k = some (.int .i64)) (x : Int) (hx : x ∈ K) :
    (Instr.lookup t (.map (some b)) (.int .i64 x) false).run P w = .ok (V x) w := by
  obtain ⟨es, c, hb, hes⟩ := h
  obtain ⟨j, _, _, hf⟩ := (find_im V x K es.toList 0 hes).2 hx
  have hc : (Instr.checkKey es.isEmpty 10000 k (.int .i64 x)).run P w = .ok () w := MapKept.run_checkKey (k := .int .i64 x) hk rfl es.isEmpty 9999
  simp [Instr.lookup, run_underlying ht, MapKept.run_getObj_map hb, hc, MapKept.run_findKey hk hf, Result.andThen]
theorem IM.len {w : World} {b : Nat} {K : List Int} {V : Int → Value} (h : IM w b K V) (ht : P.underlying t = some (.map k e)) (ty : TypeId) :
    (Builtin.len_ #[t] ty #[.map (some b)]).run P w = .ok (.int .i64 (K.length : Int)) w := by
  obtain ⟨es, c, hb, hes⟩ := h
  have hl : es.size = K.length := by
    have := congrArg List.length hes
    simpa using this
  rw [← hl]
  simp [Builtin.len_, run_underlying ht, MapKept.run_getObj_map hb, goInt, Result.andThen]
theorem im_grown {w : World} {b : Nat} {o : Obj} : w.grownBy { w with heap := w.heap.setIfInBounds b o } (some b) :=
  ⟨rfl, rfl, rfl, by simp, fun i _ hne => by
    have : i ≠ b := fun e => hne (by rw [e])
    show (w.heap.setIfInBounds b o)[i]? = _
    rw [Array.getElem?_setIfInBounds]
    rw [if_neg (Ne.symm this)]⟩
theorem map_modify {α β : Type} (f : α → β) (g : α → α) (h : β → β) (hfg : ∀ a, f (g a) = h (f a)) : ∀ (l : List α) (j : Nat), (l.modify j g).map f = (l.map f).modify j h
  | [], j => by cases j <;> simp
  | a :: l, 0 => by simp [hfg]
  | a :: l, j + 1 => by simp [map_modify f g h hfg l j]
theorem modify_keys (V : Int → Value) (k : Int) (v : Value) : ∀ (K : List Int) (j : Nat), K.Nodup → K[j]? = some k →
    (K.map (fun x => (Value.int .i64 x, V x))).modify j (fun p => (p.1, v)) = K.map (fun x => (Value.int .i64 x, if x = k then v else V x))
  | [], j, _, h => by simp at h
  | x :: K, 0, hd, h => by
    simp only [List.getElem?_cons_zero, Option.some.injEq] at h
    subst h
    have hn : x ∉ K := (List.nodup_cons.1 hd).1
    simp only [List.map_cons, List.modify_zero_cons, if_true]
    refine congrArg _ (List.map_congr_left fun y hy => ?_)
    rw [if_neg (fun e => hn (by rw [← e]; exact hy))]
  | x :: K, j + 1, hd, h => by
    have hm : k ∈ K := List.mem_of_getElem? (by simpa using h)
    have hn : x ≠ k := fun e => (List.nodup_cons.1 hd).1 (by rw [e]; exact hm)
    simp only [List.map_cons, List.modify_succ_cons]
    rw [modify_keys V k v K j (List.nodup_cons.1 hd).2 (by simpa using h), if_neg hn]
theorem map_erase {α β : Type} (f : α → β) : ∀ (l : List α) (j : Nat), (l.eraseIdx j).map f = (l.map f).eraseIdx j
  | [], j => rfl
  | a :: l, 0 => rfl
  | a :: l, j + 1 => by simp [map_erase f l j]
theorem erase_keys (k : Int) : ∀ (K : List Int) (j : Nat), K.Nodup → K[j]? = some k → K.eraseIdx j = K.filter (fun x => decide (x ≠ k))
  | [], j, _, h => by simp at h
  | x :: K, 0, hd, h => by
    simp only [List.getElem?_cons_zero, Option.some.injEq] at h
    subst h
    have hn : x ∉ K := (List.nodup_cons.1 hd).1
    rw [List.eraseIdx_cons_zero, List.filter_cons_of_neg (by simp)]
    refine (List.filter_eq_self.2 fun y hy => ?_).symm
    simp only [ne_eq, decide_not, Bool.not_eq_true', decide_eq_false_iff_not]
    exact fun e => hn (by rw [← e]; exact hy)
  | x :: K, j + 1, hd, h => by
    have hm : k ∈ K := List.mem_of_getElem? (by simpa using h)
    have hn : x ≠ k := fun e => (List.nodup_cons.1 hd).1 (by rw [e]; exact hm)
    rw [List.eraseIdx_cons_succ, List.filter_cons_of_pos (by simpa using hn), erase_keys k K j (List.nodup_cons.1 hd).2 (by simpa using h)]
theorem IM.put {w : World} {b : Nat} {K : List Int} {V : Int → Value} (h : IM w b K V) (hd : K.Nodup) (ht : P.underlying t = some (.map k e)) (hk : P.underlying k = some (.int .i64)) (x : Int) (v : Value) :
    ∃ w', (Instr.mapUpdate t (.map (some b)) (.int .i64 x) v).run P w = .ok () w' ∧ IM w' b (if x ∈ K then K else K ++ [x]) (fun y => if y = x then v else V y) ∧ w.grownBy w' (some b) := by
  obtain ⟨es, c, hb, hes⟩ := h
  have hc : (Instr.checkKey false 10000 k (.int .i64 x)).run P w = .ok () w := MapKept.run_checkKey (k := .int .i64 x) hk rfl false 9999
  by_cases hx : x ∈ K
  · rw [if_pos hx]
    obtain ⟨j, hj, hkj, hf⟩ := (find_im V x K es.toList 0 hes).2 hx
    rw [Nat.zero_add] at hf
    have hjs : j < es.size := by
      have := congrArg List.length hes
      simp at this
      omega
    have hkey : ((es[j]?).map (·.key)).getD (.int .i64 x) = .int .i64 x := by
      have h1 : (es.toList.map (fun e => (e.key, e.val)))[j]? = some (.int .i64 x, V x) := by
        rw [hes, List.getElem?_map, hkj]
        rfl
      rw [List.getElem?_map, List.getElem?_eq_getElem (by simpa using hjs)] at h1
      simp only [Option.map_some, Option.some.injEq, Prod.mk.injEq, Array.getElem_toList] at h1
      rw [Array.getElem?_eq_getElem hjs, Option.map_some, Option.getD_some, h1.1]
    have hst : (Instr.keyThatStays (.int .i64 x) (.int .i64 x)).run P w = .ok (.int .i64 x) w := MapKept.run_keyThatStays (d := .int .i64) rfl
    obtain ⟨h1, _⟩ := MapKept.heap_set (o' := .map (es.modify j fun e => { e with key := .int .i64 x, val := v }) c) hb
    refine ⟨{ w with heap := w.heap.setIfInBounds b (.map (es.modify j fun e => { e with key := .int .i64 x, val := v }) c) }, ?_, ⟨_, _, h1, ?_⟩, im_grown⟩
    · simp [Instr.mapUpdate, run_underlying ht, MapKept.run_getObj_map hb, hc, MapKept.run_findKey hk hf, hkey, hst, MapKept.run_setObj_map _ hb, Result.andThen]
    · have hj2 : (K.map (fun x => (Value.int .i64 x, V x)))[j]? = some (.int .i64 x, V x) := by rw [List.getElem?_map, hkj]; rfl
      rw [← modify_keys V x v K j hd hkj, ← hes]
      rw [Array.toList_modify]
      apply List.ext_getElem?
      intro i
      rw [List.getElem?_map, List.getElem?_modify, List.getElem?_modify, List.getElem?_map]
      by_cases c1 : j = i
      · subst c1
        rw [← hes, List.getElem?_map] at hj2
        cases hg : es.toList[j]? with
        | none => rw [hg] at hj2; cases hj2
        | some e0 =>
          rw [hg] at hj2
          simp only [Option.map_some, Option.some.injEq, Prod.mk.injEq] at hj2
          simp [hj2.1]
      · cases hg : es.toList[i]? <;> simp [c1]
  · rw [if_neg hx]
    have hf := (find_im V x K es.toList 0 hes).1 hx
    obtain ⟨h1, _⟩ := MapKept.heap_set (o' := .map (es.push { key := .int .i64 x, val := v, born := c }) (c + 1)) hb
    refine ⟨{ w with heap := w.heap.setIfInBounds b (.map (es.push { key := .int .i64 x, val := v, born := c }) (c + 1)) }, ?_, ⟨_, _, h1, ?_⟩, im_grown⟩
    · simp [Instr.mapUpdate, run_underlying ht, MapKept.run_getObj_map hb, hc, MapKept.run_findKey hk hf, MapKept.run_setObj_map _ hb, Result.andThen]
    · rw [Array.toList_push, List.map_append, hes, List.map_append]
      have e1 : K.map (fun k => (Value.int .i64 k, V k)) = K.map (fun k => (Value.int .i64 k, if k = x then v else V k)) := List.map_congr_left fun y hy => by
        rw [if_neg (fun e => hx (by rw [← e]; exact hy))]
      rw [e1]
      simp
theorem IM.drop {w : World} {b : Nat} {K : List Int} {V : Int → Value} (h : IM w b K V) (hd : K.Nodup) (ht : P.underlying t = some (.map k e)) (hk : P.underlying k = some (.int .i64)) (x : Int) (hx : x ∈ K) :
    ∃ w', (∀ ty, (Builtin.delete_ #[t, k] ty #[.map (some b), .int .i64 x]).run P w = .ok (.tuple #[]) w') ∧ IM w' b (K.filter (fun y => decide (y ≠ x))) V ∧ w.grownBy w' (some b) := by
  obtain ⟨es, c, hb, hes⟩ := h
  obtain ⟨j, hj, hkj, hf⟩ := (find_im V x K es.toList 0 hes).2 hx
  rw [Nat.zero_add] at hf
  have hc : (Instr.checkKey es.isEmpty 10000 k (.int .i64 x)).run P w = .ok () w := MapKept.run_checkKey (k := .int .i64 x) hk rfl es.isEmpty 9999
  obtain ⟨h1, _⟩ := MapKept.heap_set (o' := .map (es.eraseIdxIfInBounds j) c) hb
  refine ⟨{ w with heap := w.heap.setIfInBounds b (.map (es.eraseIdxIfInBounds j) c) }, ?_, ⟨_, _, h1, ?_⟩, im_grown⟩
  · intro ty
    simp [Builtin.delete_, run_underlying ht, MapKept.run_getObj_map hb, hc, MapKept.run_findKey hk hf, MapKept.run_setObj_map _ hb, Result.andThen]
  · have hjs : j < es.size := by
      have := congrArg List.length hes
      simp at this
      omega
    have hsub : (es.eraseIdxIfInBounds j).toList = es.toList.eraseIdx j := by
      unfold Array.eraseIdxIfInBounds
      rw [dif_pos hjs]
      simp
    rw [hsub, ← erase_keys x K j hd hkj, map_erase, hes, map_erase]
end
end Go.Proofs.Ytfjhlapcopjfiaa
