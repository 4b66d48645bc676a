/-
  copy at elements of several cells, at the operation; a map with names as keys: a store of a new name, a look.
-/
import Derived.Test.YtfjhlapcopjfiaaSLaw
import Derived.Maps.OwnOps
import Derived.WideMake
import Derived.Sort.Walk0
import Derived.Deep.RegionLaw
namespace Go.Proofs.Ytfjhlapcopjfiaa
open Go.RowKit
set_option linter.unusedVariables false

theorem run_copyN (P : Program) (w : World) (dT sT ty elem : TypeId) (sz : Nat) (g o dLen dCap : Nat) (a : Addr) (sLen sCap : Nat) (cur : Array Value) (t : TypeId) (cs : List Value)
    (hu : P.underlying dT = some (.slice elem)) (hs : (P.info? elem).map (·.size) = some sz)
    (hg : w.heap[g]? = some (.cells cur t (0, 0))) (hn : cs.length = Nat.min sLen dLen * sz)
    (hsrc : ∀ j v, cs[j]? = some v → w.cell? (a.add j) = some v) (hfit : o + cs.length ≤ cur.size) (h1 : ∀ v ∈ cs, v.oneCell' = true) :
    (Builtin.copy_ #[dT, sT] ty #[.slice (some ⟨g, o, none⟩) dLen dCap, .slice (some a) sLen sCap]).run P w =
      .ok (goInt (Nat.min sLen dLen)) (w.setRow g (cur.toList.take o ++ cs ++ cur.toList.drop (o + cs.length)).toArray) := by
  have hl := run_loadCells_list (P := P) w a cs hsrc
  have hst := run_storeCells_at P g o t cs 0 cur w hg (by simpa using hfit) h1
  cases hq : P.info? elem with
  | none => simp [hq] at hs
  | some i =>
    have hi : i.size = sz := by simpa [hq] using hs
    simp [Builtin.copy_, run_underlying hu, Builtin.lenOf, Builtin.firstCells, sizeOf, typeInfo, hq, hi, ← hn, hl, hst]
theorem run_copyN_none (P : Program) (w : World) (dT sT ty elem : TypeId) (sz : Nat) (d a : Option Addr) (dLen dCap sLen sCap : Nat) (hu : P.underlying dT = some (.slice elem)) (hs : (P.info? elem).map (·.size) = some sz) (hn : Nat.min sLen dLen = 0) :
    (Builtin.copy_ #[dT, sT] ty #[.slice d dLen dCap, .slice a sLen sCap]).run P w = .ok (goInt 0) w := by
  cases hq : P.info? elem with
  | none => simp [hq] at hs
  | some i =>
    have hl : ∀ (x : Addr), (loadCells x 0).run P w = .ok #[] w := fun x => by simpa using run_loadCells_list (P := P) w x [] (by simp)
    cases d <;> cases a <;> simp [Builtin.copy_, run_underlying hu, Builtin.lenOf, Builtin.firstCells, sizeOf, typeInfo, hq, hn, storeCells, hl]
theorem wpList_copyN {P : Program} {w : World} {ops : Array Oper} {rest : List Oper} {o : Oper} {a : Act} {Q : Exit → Act → World → Prop} (hgd : o.guard = none) (d s : Operand) (dT sT : TypeId)
    (ho : o.op = .call { callee := .builtin .copy, args := #[d, s], argTypes := #[dT, sT] }) (elem : TypeId) (sz : Nat) (hu : P.underlying dT = some (.slice elem)) (hsz : (P.info? elem).map (·.size) = some sz) (hs0 : 0 < sz)
    (dp sp : Option Addr) (dLen dCap sLen sCap : Nat) (hd : a.eval d = .slice dp dLen dCap) (hs : a.eval s = .slice sp sLen sCap)
    (g off : Nat) (cur : List Value) (t : TypeId) (hg : w.heap[g]? = some (.cells cur.toArray t (0, 0))) (cs : List Value) (n : Nat) (hmin : Nat.min sLen dLen = n) (hn : cs.length = n * sz)
    (hpos : 0 < cs.length → dp = some ⟨g, off, none⟩ ∧ ∃ ad, sp = some ad ∧ ∀ j v, cs[j]? = some v → w.cell? (ad.add j) = some v)
    (hfit : off + cs.length ≤ cur.length) (h1 : ∀ v ∈ cs, v.oneCell' = true) (B : Nat) (w0 : World) (hb : Below B w0 w) (hBg : B ≤ g)
    (h : ∀ w', Hid (w'.heap[g]? = some (.cells (splice cur off cs).toArray t (0, 0))) → Below B w0 w' → wpList P ops Q rest (a.put o.dst (goInt n)) w') :
    wpList P ops Q (o :: rest) a w := by
  subst hmin
  refine wpList_plain hgd fun K hK => ?_
  by_cases h0 : cs.length = 0
  · obtain rfl : cs = [] := List.eq_nil_of_length_eq_zero h0
    have hm : Nat.min sLen dLen = 0 := by
      rcases Nat.mul_eq_zero.1 hn.symm with e | e
      · exact e
      · omega
    have hrun := run_copyN_none P w dT sT o.type elem sz dp sp dLen dCap sLen sCap hu hsz hm
    rw [hm] at h
    unfold Oper.wp
    simp [execOp, ho, resolve, invoke, builtin, hd, hs, hrun, Result.andThen]
    exact hK _ _ (h w (show _ = _ by simpa [splice] using hg) hb)
  · obtain ⟨rfl, ad, rfl, hsrc⟩ := hpos (by omega)
    have hrun := run_copyN P w dT sT o.type elem sz g off dLen dCap ad sLen sCap cur.toArray t cs hu hsz hg hn hsrc (by simpa using hfit) h1
    unfold Oper.wp
    simp [execOp, ho, resolve, invoke, builtin, hd, hs, hrun, Result.andThen]
    exact hK _ _ (h _ (show _ = _ by simpa [splice] using setRow_heap w g _ _ t _ hg) (below_setRow hb hBg _))
/-- The same as one step of a region that draws its order. -/
theorem step_copyN {P : Program} {ops : Array Oper} {o : Oper} {a : Act} {w : World} {K : Act → World → Prop} {Q : Exit → Act → World → Prop} {E : Prop} (hgd : o.guard = none) (d s : Operand) (dT sT : TypeId)
    (ho : o.op = .call { callee := .builtin .copy, args := #[d, s], argTypes := #[dT, sT] }) (elem : TypeId) (sz : Nat) (hu : P.underlying dT = some (.slice elem)) (hsz : (P.info? elem).map (·.size) = some sz) (hs0 : 0 < sz)
    (dp sp : Option Addr) (dLen dCap sLen sCap : Nat) (hd : a.eval d = .slice dp dLen dCap) (hs : a.eval s = .slice sp sLen sCap)
    (g off : Nat) (cur : List Value) (t : TypeId) (hg : w.heap[g]? = some (.cells cur.toArray t (0, 0))) (cs : List Value) (n : Nat) (hmin : Nat.min sLen dLen = n) (hn : cs.length = n * sz)
    (hpos : 0 < cs.length → dp = some ⟨g, off, none⟩ ∧ ∃ ad, sp = some ad ∧ ∀ j v, cs[j]? = some v → w.cell? (ad.add j) = some v)
    (hfit : off + cs.length ≤ cur.length) (h1 : ∀ v ∈ cs, v.oneCell' = true) (B : Nat) (w0 : World) (hb : Below B w0 w) (hBg : B ≤ g)
    (h : ∀ w', Hid (w'.heap[g]? = some (.cells (splice cur off cs).toArray t (0, 0))) → Below B w0 w' → K (a.put o.dst (goInt n)) w') :
    if Region.wanted o (yielded ops a.tmps) = true then Oper.wp P o a w K Q else E := by
  subst hmin
  have hw : Region.wanted o (yielded ops a.tmps) = true := by simp [Region.wanted, hgd]
  rw [if_pos hw]
  by_cases h0 : cs.length = 0
  · obtain rfl : cs = [] := List.eq_nil_of_length_eq_zero h0
    have hm : Nat.min sLen dLen = 0 := by
      rcases Nat.mul_eq_zero.1 hn.symm with e | e
      · exact e
      · omega
    have hrun := run_copyN_none P w dT sT o.type elem sz dp sp dLen dCap sLen sCap hu hsz hm
    rw [hm] at h
    unfold Oper.wp
    simp [execOp, ho, resolve, invoke, builtin, hd, hs, hrun, Result.andThen]
    exact h w (show _ = _ by simpa [splice] using hg) hb
  · obtain ⟨rfl, ad, rfl, hsrc⟩ := hpos (by omega)
    have hrun := run_copyN P w dT sT o.type elem sz g off dLen dCap ad sLen sCap cur.toArray t cs hu hsz hg hn hsrc (by simpa using hfit) h1
    unfold Oper.wp
    simp [execOp, ho, resolve, invoke, builtin, hd, hs, hrun, Result.andThen]
    exact h _ (show _ = _ by simpa [splice] using setRow_heap w g _ _ t _ hg) (below_setRow hb hBg _)

theorem ltS_trans {a b c : ByteArray} (h1 : ltS a b = true) (h2 : ltS b c = true) : ltS a c = true := by
  unfold ltS at *
  rw [bytesLess_eq, decide_eq_true_eq] at *
  exact List.lt_trans h1 h2
theorem ltS_ne {a b : ByteArray} (h : ltS a b = true) : a ≠ b := by
  rintro rfl
  unfold ltS at h
  rw [bytesLess_eq, decide_eq_true_eq] at h
  exact List.lt_irrefl _ h
theorem okL_step {zs : List StarV} (h : okL zs = true) (j : Nat) (hj : j < zs.length) : stepB zs j = true := by
  unfold okL okZ at h
  rw [Bool.and_eq_true] at h
  exact List.all_eq_true.1 h.1 j (List.mem_range.2 hj)
theorem okL_lt {zs : List StarV} (h : okL zs = true) : ∀ (d i : Nat) (hj : i + d + 1 < zs.length), ltS (zs[i]'(by omega)).s zs[i + d + 1].s = true
  | 0, i, hj => by
    have h1 := okL_step h (i + 1) hj
    rw [stepB_succ, Bool.and_eq_true, getD_at zs i (by omega), getD_at zs (i + 1) hj] at h1
    exact h1.2
  | d + 1, i, hj => by
    have h0 := okL_lt h d i (by omega)
    have h1 := okL_step h (i + d + 1 + 1) hj
    rw [stepB_succ, Bool.and_eq_true, getD_at zs (i + d + 1) (by omega), getD_at zs (i + d + 1 + 1) hj] at h1
    exact ltS_trans h0 h1.2
theorem okL_names {zs : List StarV} (h : okL zs = true) (i j : Nat) (hij : i < j) (hj : j < zs.length) : (zs[i]'(by omega)).s ≠ zs[j].s := by
  have := okL_lt h (j - i - 1) i (by omega)
  have e : i + (j - i - 1) + 1 = j := by omega
  simp only [e] at this
  exact ltS_ne this

/-- The places of the first j names. -/
def entsS (zs : List StarV) (j : Nat) : Array MapEntry := ((List.range j).map (fun i => ({ key := .string (zs.getD i star0).s, val := .int .i64 (i : Int), born := i } : MapEntry))).toArray
theorem entsS_succ (zs : List StarV) (j : Nat) : entsS zs (j + 1) = (entsS zs j).push { key := .string (zs.getD j star0).s, val := .int .i64 (j : Int), born := j } := by
  simp [entsS, List.range_succ]
theorem entsS_key (zs : List StarV) (j : Nat) : ∀ x ∈ (entsS zs j).toList, MapKept.IsKey .string x.key := by
  intro x hx
  simp only [entsS, List.mem_map, List.mem_range] at hx
  obtain ⟨i, _, rfl⟩ := hx
  exact trivial
theorem entsS_get (zs : List StarV) (j i : Nat) (h : i < j) : (entsS zs j).toList[i]? = some { key := .string (zs.getD i star0).s, val := .int .i64 (i : Int), born := i } := by
  simp [entsS, h]
theorem find_new {zs : List StarV} {j : Nat} {s : ByteArray} (h : ∀ i, i < j → (zs.getD i star0).s ≠ s) : Instr.findNow .string (.string s) (entsS zs j).toList 0 = some none := by
  rcases MapKept.findNow_spec (d := .string) (k := .string s) trivial (entsS zs j).toList 0 (entsS_key zs j) with h1 | ⟨i, e, _, h2, h3⟩
  · exact h1.1
  · exfalso
    have hi : i < j := by
      have := (List.getElem?_eq_some_iff.1 h2).1
      simpa [entsS] using this
    rw [entsS_get zs j i hi] at h2
    obtain rfl := Option.some.inj h2
    exact h i hi (by simpa using h3)
theorem find_at {zs : List StarV} {j : Nat} {s : ByteArray} (k : Nat) (hk : k < j) (hs : (zs.getD k star0).s = s) (hd : ∀ i, i < j → i ≠ k → (zs.getD i star0).s ≠ s) : Instr.findNow .string (.string s) (entsS zs j).toList 0 = some (some (k, .int .i64 (k : Int))) := by
  rcases MapKept.findNow_spec (d := .string) (k := .string s) trivial (entsS zs j).toList 0 (entsS_key zs j) with h1 | ⟨i, e, h1, h2, h3⟩
  · exfalso
    have := h1.2 _ (List.mem_of_getElem? (entsS_get zs j k hk))
    exact this (by rw [hs])
  · have hi : i < j := by
      have := (List.getElem?_eq_some_iff.1 h2).1
      simpa [entsS] using this
    rw [entsS_get zs j i hi] at h2
    obtain rfl := Option.some.inj h2
    have e : i = k := by
      by_cases c : i = k
      · exact c
      · exact absurd (by simpa using h3) (hd i hi c)
    subst e
    rw [h1, Nat.zero_add]

/-- A store of a new name. -/
theorem wpList_put_name {P : Program} (w : World) {ops : Array Oper} {rest : List Oper} {o : Oper} {a : Act} {Q : Exit → Act → World → Prop}
    (hg : o.guard = none) (m x v : Operand) (t k e : TypeId) (hop : o.op = Op.mapUpdate t m x v) (ht : P.underlying t = some (.map k e)) (hk : P.underlying k = some .string)
    (b : Nat) (es : Array MapEntry) (c : Nat) (hm : a.eval m = .map (some b)) (hb : w.heap[b]? = some (.map es c)) (s : ByteArray) (val : Value) (hx : a.eval x = .string s) (hv : a.eval v = val)
    (hf : Instr.findNow .string (.string s) es.toList 0 = some none)
    (hK : ∀ w', w'.heap[b]? = some (.map (es.push { key := .string s, val := val, born := c }) (c + 1)) → w.grownBy w' (some b) → wpList P ops Q rest (a.put o.dst undef) w') :
    wpList P ops Q (o :: rest) a w := by
  refine wpList_plain hg fun K' hK' => ?_
  have hc : (Instr.checkKey false 10000 k (.string s)).run P w = .ok () w := MapKept.run_checkKey (k := .string s) hk trivial false 9999
  have hrun : (Instr.mapUpdate t (.map (some b)) (.string s) val).run P w = .ok () { w with heap := w.heap.setIfInBounds b (.map (es.push { key := .string s, val := val, born := c }) (c + 1)) } := by
    simp [Instr.mapUpdate, run_underlying ht, MapKept.run_getObj_map hb, hc, MapKept.run_findKey hk hf, MapKept.run_setObj_map _ hb, Result.andThen]
  obtain ⟨h1, h2⟩ := MapKept.heap_set (o' := .map (es.push { key := .string s, val := val, born := c }) (c + 1)) hb
  unfold Oper.wp
  simp [execOp, hop, hm, hx, hv, hrun, Result.andThen]
  exact hK' _ _ (hK _ h1 ⟨rfl, rfl, rfl, by simp, fun i _ hne => h2 i (fun e => hne (by rw [e]))⟩)
/-- A look for a name. -/
theorem look_name {P : Program} (t k e : TypeId) (ht : P.underlying t = some (.map k e)) (hk : P.underlying k = some .string) (W : World) (b c : Nat) (es : Array MapEntry) (hb : W.heap[b]? = some (.map es c)) (s : ByteArray) (v : Value) (j : Nat) (hf : Instr.findNow .string (.string s) es.toList 0 = some (some (j, v))) :
    (Instr.lookup t (.map (some b)) (.string s) true).run P W = .ok (.tuple #[v, .bool true]) W := by
  have hc : (Instr.checkKey es.isEmpty 10000 k (.string s)).run P W = .ok () W := MapKept.run_checkKey (k := .string s) hk trivial es.isEmpty 9999
  simp [Instr.lookup, run_underlying ht, MapKept.run_getObj_map hb, hc, MapKept.run_findKey hk hf, Result.andThen]
theorem look_no_name {P : Program} (t k e : TypeId) (ht : P.underlying t = some (.map k e)) (hk : P.underlying k = some .string) (W : World) (z : Value) (hz : (zeroValue e).run P W = .ok z W) (b c : Nat) (es : Array MapEntry) (hb : W.heap[b]? = some (.map es c)) (s : ByteArray) (hf : Instr.findNow .string (.string s) es.toList 0 = some none) :
    (Instr.lookup t (.map (some b)) (.string s) true).run P W = .ok (.tuple #[z, .bool false]) W := by
  have hc : (Instr.checkKey es.isEmpty 10000 k (.string s)).run P W = .ok () W := MapKept.run_checkKey (k := .string s) hk trivial es.isEmpty 9999
  simp [Instr.lookup, run_underlying ht, MapKept.run_getObj_map hb, hc, MapKept.run_findKey hk hf, Result.andThen, hz]
end Go.Proofs.Ytfjhlapcopjfiaa
