/-
  Figures as arguments: what a list of lists of numbers and a figure read as; a row of rows of one's own.
-/
import Derived.Test.YtoellkbmhpekdaaStar0
import Derived.Deep.OwnRows
import Derived.OpenShut
import Derived.ChangeSlices
namespace Go.Proofs.Ytoellkbmhpekdaa
open Go.RowKit Go.Joins Go.ChangeShapes Go.WideShapes Go.Deep
set_option linter.unusedVariables false

theorem info_n64 : (Try.prog.info? 2).map (fun i => (i.zero, i.size, i.bytes)) = some (some (.int .i64 0), 1, 8) := by kernel_rfl
/-- A slice that came in holds these numbers. -/
def NumsIn (w : World) (v : Value) (zs : List Int) : Prop :=
  (∃ a cap, v = .slice a 0 cap ∧ zs = []) ∨ (∃ b off cap, v = .slice (some ⟨b, off, none⟩) zs.length cap ∧ b < w.heap.size ∧ ∀ j, (h : j < zs.length) → w.cell? ⟨b, off + j, none⟩ = some (.int .i64 zs[j]) ∧ (-9223372036854775808 ≤ zs[j] ∧ zs[j] ≤ 9223372036854775807))
theorem NumsIn.below {w w' : World} {v : Value} {zs : List Int} (h : NumsIn w v zs) (hb : Below w.heap.size w w') : NumsIn w' v zs := by
  rcases h with h | ⟨b, off, cap, hv, hl, hc⟩
  · exact .inl h
  · exact .inr ⟨b, off, cap, hv, by have := hb.size; omega, fun j hj => ⟨(hb.cell (p := ⟨b, off + j, none⟩) hl).trans (hc j hj).1, (hc j hj).2⟩⟩
theorem NumsIn.len {w : World} {v : Value} {zs : List Int} (h : NumsIn w v zs) : ∃ a cap, v = .slice a zs.length cap := by
  rcases h with ⟨a, cap, rfl, rfl⟩ | ⟨b, off, cap, rfl, _⟩
  · exact ⟨a, cap, rfl⟩
  · exact ⟨_, cap, rfl⟩
/-- A slice that came in holds these lists. -/
def LinesIn (w : World) (v : Value) (ls : List (List Int)) : Prop :=
  (∃ a cap, v = .slice a 0 cap ∧ ls = []) ∨ (∃ b off cap, v = .slice (some ⟨b, off, none⟩) ls.length cap ∧ b < w.heap.size ∧ ∀ j, (h : j < ls.length) → ∃ u, w.cell? ⟨b, off + j, none⟩ = some u ∧ NumsIn w u ls[j] ∧ ls[j].length ≤ 9223372036854775807)
theorem LinesIn.below {w w' : World} {v : Value} {ls : List (List Int)} (h : LinesIn w v ls) (hb : Below w.heap.size w w') : LinesIn w' v ls := by
  rcases h with h | ⟨b, off, cap, hv, hl, hc⟩
  · exact .inl h
  · exact .inr ⟨b, off, cap, hv, by have := hb.size; omega, fun j hj => by
      obtain ⟨u, c, hu, hn⟩ := hc j hj
      exact ⟨u, (hb.cell (p := ⟨b, off + j, none⟩) hl).trans c, hu.below hb, hn⟩⟩

section
variable {H : Type} {enc : TypeId × Value → H} {w : World} {base : Nat} {held : Bool}
theorem ints_in {fuel : Nat} {sa : Option Addr} {sn sc : Nat} {x : DataW H × List MemPlace}
    (hf : DataW.trod enc Try.prog w base (fun _ => true) held fuel 89 [.slice sa sn sc] = some x) : ∃ zs : List Int, NumsIn w (.slice sa sn sc) zs ∧ zs.length ≤ 9223372036854775807 := by
  rcases open_ints Try.underlying89 Try.underlying2 (by kernel_rfl) hf with ⟨hcs, hx⟩ | ⟨a, len', cap', zs, hcs, _, hl, hm, hz, hx, hcell, hwz⟩
  · simp at hcs
    obtain ⟨rfl, rfl, rfl⟩ := hcs
    exact ⟨[], .inl ⟨_, _, rfl, rfl⟩, by simp⟩
  · simp at hcs
    obtain ⟨rfl, rfl, rfl⟩ := hcs
    simp only [if_true] at hz
    by_cases hl0 : sn = 0
    · subst hl0
      exact ⟨[], .inl ⟨_, _, rfl, rfl⟩, by simp⟩
    · obtain ⟨b, off, spot⟩ := a
      have hspot : spot = none := by simpa [Addr.add] using World.cell?_spot (hcell 0 (by omega))
      subst hspot
      have hlt : (zs.take sn).length = sn := by simp; omega
      have hget : ∀ j, (h : j < (zs.take sn).length) → w.cell? ⟨b, off + j, none⟩ = some (.int .i64 (zs.take sn)[j]) := by
        intro j hj
        have h1 := hcell j (by omega)
        rw [add_plain] at h1
        rw [h1]
        simp [List.getD, show j < zs.length by omega]
      exact ⟨zs.take sn, .inr ⟨b, off, sc, by rw [hlt], World.block_lt_of_cell? w ⟨b, off + 0, none⟩ (hget 0 (by omega)), fun j hj => ⟨hget j hj, wf_fits (hwz _ (List.mem_of_mem_take (List.getElem_mem hj)))⟩⟩, by rw [hlt]; unfold maxLen at hm; omega⟩
set_option maxRecDepth 100000 in
theorem lines_open {fuel : Nat} {v : Value} {x : DataW H × List MemPlace}
    (hf : DataW.trod enc Try.prog w base (fun _ => true) held fuel 36 [v] = some x) : ∃ ls : List (List Int), LinesIn w v ls ∧ ls.length ≤ 9223372036854775807 := by
  rcases open_slice1 Try.underlying36 (by kernel_rfl) hf with ⟨hcs, hx⟩ | ⟨a, len, cap, m, n, V, D, Pl, hcs, _, hl, hm, hmm, hx, hi⟩
  · simp at hcs
    exact ⟨[], .inl ⟨_, _, hcs, rfl⟩, by simp⟩
  · simp at hcs
    subst hcs
    simp only [if_true] at hmm
    by_cases hl0 : len = 0
    · subst hl0
      exact ⟨[], .inl ⟨_, _, rfl, rfl⟩, by simp⟩
    · obtain ⟨b, off, spot⟩ := a
      have hspot : spot = none := by simpa [Addr.add] using World.cell?_spot (hi 0 (by omega)).1
      subst hspot
      obtain ⟨ls, hll, hz⟩ := list_of len (fun i l => ∃ u, w.cell? ⟨b, off + i, none⟩ = some u ∧ NumsIn w u l ∧ l.length ≤ 9223372036854775807) (by
        intro i hil
        obtain ⟨hc, ht⟩ := hi i (by omega)
        rw [add_plain] at hc
        rcases open_slice1 Try.underlying89 (by kernel_rfl) ht with ⟨hcs', _⟩ | ⟨a', len', cap', _, _, _, _, _, hcs', _⟩
        · simp at hcs'
          rw [hcs'] at ht hc
          obtain ⟨zs, h1, h2⟩ := ints_in ht
          exact ⟨zs, _, hc, h1, h2⟩
        · simp at hcs'
          rw [hcs'] at ht hc
          obtain ⟨zs, h1, h2⟩ := ints_in ht
          exact ⟨zs, _, hc, h1, h2⟩)
      subst hll
      obtain ⟨u, c, _⟩ := hz 0 (by omega)
      exact ⟨ls, .inr ⟨b, off, cap, rfl, World.block_lt_of_cell? w ⟨b, off + 0, none⟩ c, hz⟩, by unfold maxLen at hm; omega⟩
set_option maxRecDepth 100000 in
theorem figure_open {r : Reach} {b0 : Nat} {v : Value} {d : DataW H} {p : List MemPlace}
    (hv : Value.okWide Try.prog w r b0 38 v) (h : DataW.Trod enc Try.prog w base (fun _ => true) held 38 v d p) :
    ∃ (s : ByteArray) (u : Value) (ls : List (List Int)), v = .agg #[.string s, u] ∧ s.size ≤ maxLen ∧ LinesIn w u ls ∧ ls.length ≤ 9223372036854775807 := by
  obtain ⟨va, vb, ya, yb, n, rfl, _, _, ta, tb⟩ := Go.Joins.open_agg2 Try.underlying38 (by kernel_rfl) (by kernel_rfl) hv h
  obtain ⟨s, e0, _, g0⟩ := DataW.trod_string Try.underlying9 ta
  obtain ⟨ls, h1, h2⟩ := lines_open tb
  simp only [List.cons.injEq, and_true] at e0
  subst e0
  exact ⟨s, vb, ls, rfl, g0, h1, h2⟩
theorem here_ends : True := trivial
end

/-- Block g is a row of these numbers. -/
def NRow (w : World) (g : Nat) (zs : List Int) : Prop := w.rowIs g 2 zs.length (fun k => .int .i64 (zs.getD k 0))
theorem NRow.below {w w' : World} {g : Nat} {zs : List Int} (h : NRow w g zs) (hb : Below w.heap.size w w') : NRow w' g zs := World.rowIs.of_block h (hb.block g (World.rowIs.lt h))
theorem NRow.at {w : World} {g : Nat} {zs : List Int} (h : NRow w g zs) (j : Nat) (hj : j < zs.length) : w.cell? ⟨g, j, none⟩ = some (.int .i64 zs[j]) := by
  rw [World.rowIs.cell h hj, List.getD, List.getElem?_eq_getElem hj]
  rfl
/-- Block g is a row of slices of these lists, each in a row of its own. -/
structure LRow (w : World) (g : Nat) (ls : List (List Int)) (bs : Nat → Nat) : Prop where
  row : w.rowIs g 89 ls.length (fun k => .slice (some ⟨bs k, 0, none⟩) (ls.getD k []).length (ls.getD k []).length)
  each : ∀ k, k < ls.length → NRow w (bs k) (ls.getD k [])
theorem LRow.lt {w : World} {g : Nat} {ls : List (List Int)} {bs : Nat → Nat} (h : LRow w g ls bs) : g < w.heap.size := World.rowIs.lt h.row
theorem LRow.below {w w' : World} {g : Nat} {ls : List (List Int)} {bs : Nat → Nat} (h : LRow w g ls bs) (hb : Below w.heap.size w w') : LRow w' g ls bs :=
  ⟨World.rowIs.of_block h.row (hb.block g h.lt), fun k hk => (h.each k hk).below hb⟩
theorem LRow.at {w : World} {g : Nat} {ls : List (List Int)} {bs : Nat → Nat} (h : LRow w g ls bs) (j : Nat) (hj : j < ls.length) : w.cell? ⟨g, j, none⟩ = some (.slice (some ⟨bs j, 0, none⟩) ls[j].length ls[j].length) ∧ NRow w (bs j) ls[j] := by
  have e : ls.getD j [] = ls[j] := by rw [List.getD, List.getElem?_eq_getElem hj]; rfl
  have h1 := World.rowIs.cell h.row hj
  have h2 := h.each j hj
  rw [e] at h1 h2
  exact ⟨h1, h2⟩
/-- The rows so far. -/
def lineUp (ls : List (List Int)) (bs : Nat → Nat) (j k : Nat) : Value := if k < j then .slice (some ⟨bs k, 0, none⟩) (ls.getD k []).length (ls.getD k []).length else .slice none 0 0

theorem nums_make (n : Nat) (hn : n ≤ 1048577) (w : World) :
    (Instr.makeSlice 89 (.int .i64 (n : Int)) (.int .i64 (n : Int))).run Try.prog w = .ok (.slice (some ⟨w.heap.size, 0, none⟩) n n) (w.alloc (.cells (madeCells #[.int .i64 0] n) 2)) := by
  obtain ⟨i, hi, hzz⟩ := Option.map_eq_some_iff.1 info_n64
  simp only [Prod.mk.injEq] at hzz
  obtain ⟨hz, hs, hb⟩ := hzz
  have hr := run_make (P := Try.prog) w 89 2 i _ Try.underlying89 hi hz .i64 .i64 (n : Int) (n : Int) (by omega) (Int.le_refl _) (by rw [hb]; omega) (by omega)
  simp only [Int.toNat_natCast, hs, Nat.mul_one] at hr
  exact hr
theorem info_ints : (Try.prog.info? 89).map (fun i => (i.zero, i.size, i.bytes)) = some (some (.slice none 0 0), 1, 24) := by kernel_rfl
theorem lines_make (n : Nat) (hn : n ≤ 1048577) (w : World) :
    (Instr.makeSlice 36 (.int .i64 (n : Int)) (.int .i64 (n : Int))).run Try.prog w = .ok (.slice (some ⟨w.heap.size, 0, none⟩) n n) (w.alloc (.cells (madeCells #[.slice none 0 0] n) 89)) := by
  obtain ⟨i, hi, hzz⟩ := Option.map_eq_some_iff.1 info_ints
  simp only [Prod.mk.injEq] at hzz
  obtain ⟨hz, hs, hb⟩ := hzz
  have hr := run_make (P := Try.prog) w 36 89 i _ Try.underlying36 hi hz .i64 .i64 (n : Int) (n : Int) (by omega) (Int.le_refl _) (by rw [hb]; omega) (by omega)
  simp only [Int.toNat_natCast, hs, Nat.mul_one] at hr
  exact hr

/-- A copy of numbers so far. -/
def numUp (zs : List Int) (j k : Nat) : Value := .int .i64 (if k < j then zs.getD k 0 else 0)
theorem numUp_set {w : World} {g : Nat} {zs : List Int} {j : Nat} (h : w.rowIs g 2 zs.length (numUp zs j)) {v : Int} (hv : v = zs.getD j 0) : (w.setCell ⟨g, j, none⟩ (.int .i64 v)).rowIs g 2 zs.length (numUp zs (j + 1)) := by
  refine World.rowIs.congr (World.rowIs.set h j (.int .i64 v)) (fun k _ => ?_)
  unfold numUp
  by_cases c : k = j
  · subst c
    rw [if_pos rfl, if_pos (by omega), hv]
  · rw [if_neg c]
    by_cases d : k < j
    · rw [if_pos d, if_pos (by omega)]
    · rw [if_neg d, if_neg (by omega)]
theorem numUp_done {w : World} {g : Nat} {zs : List Int} (h : w.rowIs g 2 zs.length (numUp zs zs.length)) : NRow w g zs :=
  World.rowIs.congr h (fun k hk => by unfold numUp; rw [if_pos hk])
theorem numUp_made (w : World) (zs : List Int) : (w.alloc (.cells (madeCells #[.int .i64 0] zs.length) 2)).rowIs w.heap.size 2 zs.length (numUp zs 0) :=
  World.rowIs.congr (World.rowIs_made w (.int .i64 0) zs.length 2) (fun _ _ => by unfold numUp; rw [if_neg (Nat.not_lt_zero _)])

/-- The rows copied so far. -/
structure LUp (w : World) (g : Nat) (ls : List (List Int)) (bs : Nat → Nat) (j : Nat) : Prop where
  row : w.rowIs g 89 ls.length (lineUp ls bs j)
  each : ∀ k, k < j → NRow w (bs k) (ls.getD k []) ∧ g < bs k
theorem LUp.made (w : World) (ls : List (List Int)) (bs : Nat → Nat) : LUp (w.alloc (.cells (madeCells #[.slice none 0 0] ls.length) 89)) w.heap.size ls bs 0 :=
  ⟨World.rowIs.congr (World.rowIs_made w (.slice none 0 0) ls.length 89) (fun _ _ => by unfold lineUp; rw [if_neg (Nat.not_lt_zero _)]), fun k hk => absurd hk (Nat.not_lt_zero k)⟩
theorem LUp.below {w w' : World} {g : Nat} {ls : List (List Int)} {bs : Nat → Nat} {j : Nat} (h : LUp w g ls bs j) (hb : Below w.heap.size w w') : LUp w' g ls bs j :=
  ⟨World.rowIs.of_block h.row (hb.block g (World.rowIs.lt h.row)), fun k hk => ⟨(h.each k hk).1.below hb, (h.each k hk).2⟩⟩
theorem LUp.done {w : World} {g : Nat} {ls : List (List Int)} {bs : Nat → Nat} (h : LUp w g ls bs ls.length) : LRow w g ls bs :=
  ⟨World.rowIs.congr h.row (fun k hk => by unfold lineUp; rw [if_pos hk]), fun k hk => (h.each k hk).1⟩
theorem LUp.put {w : World} {g : Nat} {ls : List (List Int)} {bs : Nat → Nat} {j b : Nat} {zs : List Int} (h : LUp w g ls bs j) (hz : ls.getD j [] = zs) (hn : NRow w b zs) (hg : g < b) :
    LUp (w.setCell ⟨g, j, none⟩ (.slice (some ⟨b, 0, none⟩) zs.length zs.length)) g ls (fun k => if k = j then b else bs k) (j + 1) := by
  refine ⟨World.rowIs.congr (World.rowIs.set h.row j _) (fun k _ => ?_), fun k hk => ?_⟩
  · unfold lineUp
    by_cases c : k = j
    · subst c
      rw [if_pos rfl, if_pos (by omega)]
      simp only [if_true, hz]
    · simp only [if_neg c]
      by_cases d : k < j
      · rw [if_pos d, if_pos (by omega)]
      · rw [if_neg d, if_neg (by omega)]
  · by_cases c : k = j
    · subst c
      simp only [if_true, hz]
      exact ⟨World.rowIs.setOther hn (by show b ≠ g; omega) _, hg⟩
    · simp only [if_neg c]
      obtain ⟨h1, h2⟩ := h.each k (by omega)
      exact ⟨World.rowIs.setOther h1 (by show bs k ≠ g; omega) _, h2⟩
theorem LRow.setOther {w : World} {g : Nat} {ls : List (List Int)} {bs : Nat → Nat} (h : LRow w g ls bs) {a : Addr} (hg : g ≠ a.block) (hk : ∀ k, k < ls.length → bs k ≠ a.block) (v : Value) : LRow (w.setCell a v) g ls bs :=
  ⟨World.rowIs.setOther h.row hg v, fun k hl => World.rowIs.setOther (h.each k hl) (hk k hl) v⟩
end Go.Proofs.Ytoellkbmhpekdaa
