/-
  A row of planets of one's own: its cells by the list, a store into it, what make lays.
-/
import Derived.Test.YtlnpaihoihlpeaaPlanA
import Derived.Deep.OwnRows
namespace Go.Proofs.Ytlnpaihoihlpeaa
open Go.RowKit
set_option linter.unusedVariables false

def plan0 : PlanV := ⟨ByteArray.empty, 0, 0, 0⟩
def fieldV (x : PlanV) : Nat → Value
  | 0 => .string x.s
  | 1 => .int .i64 x.a
  | 2 => .int .i64 x.b
  | _ => .int .i64 x.c
def rowF (ys : List PlanV) (k : Nat) : Value := fieldV (ys.getD (k / 4) plan0) (k % 4)
/-- Block g is a row of these stars. -/
def Row (w : World) (g : Nat) (ys : List PlanV) : Prop := w.rowIs g 80 (ys.length * 4) (rowF ys)
theorem Row.at {w : World} {g : Nat} {ys : List PlanV} (h : Row w g ys) (j : Nat) (hj : j < ys.length) : PlanAt w g (j * 4) ys[j] := by
  have e : ∀ k, k < 4 → w.cell? ⟨g, j * 4 + k, none⟩ = some (fieldV ys[j] k) := by
    intro k hk
    rw [World.rowIs.cell h (show j * 4 + k < ys.length * 4 by omega)]
    unfold rowF
    rw [show (j * 4 + k) / 4 = j by omega, show (j * 4 + k) % 4 = k by omega, List.getD, List.getElem?_eq_getElem hj]
    rfl
  exact ⟨e 0 (by omega), e 1 (by omega), e 2 (by omega), e 3 (by omega)⟩
theorem Row.free {w : World} {g : Nat} {ys : List PlanV} (h : Row w g ys) (i : Nat) : w.frozen? ⟨g, i, none⟩ = false := World.rowIs.frozen h i
theorem Row.lt {w : World} {g : Nat} {ys : List PlanV} (h : Row w g ys) : g < w.heap.size := World.rowIs.lt h
theorem Row.below {w w' : World} {g : Nat} {ys : List PlanV} (h : Row w g ys) (hb : Below w.heap.size w w') : Row w' g ys := World.rowIs.of_block h (hb.block g h.lt)
theorem Row.belowB {w w' : World} {g B : Nat} {ys : List PlanV} (h : Row w g ys) (hB : g < B) (hb : Below B w w') : Row w' g ys := World.rowIs.of_block h (hb.block g hB)
/-- A star's five cells. -/
def putAt (w : World) (g o : Nat) (x : PlanV) : World := (((w.setCell ⟨g, o, none⟩ (.string x.s)).setCell ⟨g, o + 1, none⟩ (.int .i64 x.a)).setCell ⟨g, o + 2, none⟩ (.int .i64 x.b)).setCell ⟨g, o + 3, none⟩ (.int .i64 x.c)
theorem Row.put {w : World} {g : Nat} {ys : List PlanV} (h : Row w g ys) (i : Nat) (hi : i < ys.length) (x : PlanV) : Row (putAt w g (i * 4) x) g (ys.set i x) := by
  have h5 := (((World.rowIs.set h (i * 4) (.string x.s)).set (i * 4 + 1) (.int .i64 x.a)).set (i * 4 + 2) (.int .i64 x.b)).set (i * 4 + 3) (.int .i64 x.c)
  unfold Row putAt
  rw [List.length_set]
  refine World.rowIs.congr h5 (fun k hk => ?_)
  unfold rowF
  by_cases c : k / 4 = i
  · have hx : (ys.set i x).getD (k / 4) plan0 = x := by rw [c, List.getD, List.getElem?_set_self hi]; rfl
    rw [hx]
    rcases (by omega : k = i * 4 ∨ k = i * 4 + 1 ∨ k = i * 4 + 2 ∨ k = i * 4 + 3) with rfl | rfl | rfl | rfl
    · rw [if_neg (by omega), if_neg (by omega), if_neg (by omega), if_pos rfl, show i * 4 % 4 = 0 by omega]; rfl
    · rw [if_neg (by omega), if_neg (by omega), if_pos rfl, show (i * 4 + 1) % 4 = 1 by omega]; rfl
    · rw [if_neg (by omega), if_pos rfl, show (i * 4 + 2) % 4 = 2 by omega]; rfl
    · rw [if_pos rfl, show (i * 4 + 3) % 4 = 3 by omega]; rfl
  · have hx : (ys.set i x).getD (k / 4) plan0 = ys.getD (k / 4) plan0 := by rw [List.getD, List.getD, List.getElem?_set_ne (fun e => c e.symm)]
    rw [hx, if_neg (by omega), if_neg (by omega), if_neg (by omega), if_neg (by omega)]
theorem putAt_below {w0 w : World} {B g o : Nat} {x : PlanV} (h : Below B w0 w) (hg : B ≤ g) : Below B w0 (putAt w g o x) := by
  unfold putAt
  exact (((h.setCell hg _).setCell hg _).setCell hg _).setCell hg _

theorem info_planet : (Try.prog.info? 80).map (fun i => (i.zero, i.size, i.bytes)) = some (some (.agg #[.string ByteArray.empty, .int .i64 0, .int .i64 0, .int .i64 0]), 4, 40) := by kernel_rfl
theorem planet_make (n : Nat) (hn : n ≤ 1048577) (w : World) :
    (Instr.makeSlice 50 (.int .i64 (n : Int)) (.int .i64 (n : Int))).run Try.prog w = .ok (.slice (some ⟨w.heap.size, 0, none⟩) n n) (w.alloc (.cells (madeCells #[.string ByteArray.empty, .int .i64 0, .int .i64 0, .int .i64 0] (n * 4)) 80)) := by
  obtain ⟨i, hi, hzz⟩ := Option.map_eq_some_iff.1 info_planet
  simp only [Prod.mk.injEq] at hzz
  obtain ⟨hz, hs, hb⟩ := hzz
  have hr := run_make (P := Try.prog) w 50 80 i _ Try.underlying50 hi hz .i64 .i64 (n : Int) (n : Int) (by omega) (Int.le_refl _) (by rw [hb]; omega) (by omega)
  simp only [Int.toNat_natCast, hs] at hr
  exact hr
theorem Row.made (w : World) (n : Nat) : Row (w.alloc (.cells (madeCells #[.string ByteArray.empty, .int .i64 0, .int .i64 0, .int .i64 0] (n * 4)) 80)) w.heap.size (List.replicate n plan0) := by
  unfold Row
  rw [List.length_replicate]
  have h := World.rowIs_alloc w (madeCells #[.string ByteArray.empty, .int .i64 0, .int .i64 0, .int .i64 0] (n * 4)) 80 (rowF (List.replicate n plan0)) (by
    intro k hk
    rw [size_madeCells] at hk
    have hx : (List.replicate n plan0).getD (k / 4) plan0 = plan0 := by
      rw [List.getD, List.getElem?_replicate]
      split <;> rfl
    unfold rowF
    rw [hx]
    simp only [madeCells, Array.getElem?_map, Array.getElem?_range, hk, if_true, Option.map_some]
    congr 1
    have h5 : k % 4 < 4 := by omega
    show (#[Value.string ByteArray.empty, .int .i64 0, .int .i64 0, .int .i64 0] : Array Value)[k % 4]! = _
    rcases (by omega : k % 4 = 0 ∨ k % 4 = 1 ∨ k % 4 = 2 ∨ k % 4 = 3) with e | e | e | e <;> rw [e] <;> rfl)
  rw [size_madeCells] at h
  exact h

def copyS (zs : List PlanV) (j : Nat) : List PlanV := zs.take j ++ List.replicate (zs.length - j) plan0
theorem copyS_zero (zs : List PlanV) : copyS zs 0 = List.replicate zs.length plan0 := rfl
theorem copyS_all (zs : List PlanV) : copyS zs zs.length = zs := by unfold copyS; rw [List.take_length, Nat.sub_self]; simp
theorem copyS_len (zs : List PlanV) (j : Nat) (h : j ≤ zs.length) : (copyS zs j).length = zs.length := by
  unfold copyS
  rw [List.length_append, List.length_take, List.length_replicate]
  omega
theorem copyS_set (zs : List PlanV) (j : Nat) (h : j < zs.length) : (copyS zs j).set j zs[j] = copyS zs (j + 1) := by
  have hl : (zs.take j).length = j := by rw [List.length_take]; omega
  unfold copyS
  rw [show zs.length - j = (zs.length - (j + 1)) + 1 by omega, List.replicate_succ, List.set_append_right _ _ (by omega), hl, Nat.sub_self, List.set_cons_zero, List.take_succ_eq_append_getElem h, List.append_assoc]
  rfl
end Go.Proofs.Ytlnpaihoihlpeaa
