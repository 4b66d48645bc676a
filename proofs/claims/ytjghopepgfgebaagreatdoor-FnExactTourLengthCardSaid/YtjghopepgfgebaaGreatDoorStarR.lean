/-
  A row of stars of one's own: its cells by the list, a store into it, what make lays.
-/
import Derived.Test.YtjghopepgfgebaaGreatDoorStar0
import Derived.Deep.OwnRows
namespace Go.Proofs.YtjghopepgfgebaaGreatDoor
open Go.RowKit
set_option linter.unusedVariables false

def star0 : StarV := ⟨ByteArray.empty, 0, 0, 0, 0⟩
def fieldV (x : StarV) : Nat → Value
  | 0 => .string x.s
  | 1 => .int .i64 x.a
  | 2 => .int .i64 x.b
  | 3 => .int .i64 x.c
  | _ => .int .i64 x.d
def rowF (ys : List StarV) (k : Nat) : Value := fieldV (ys.getD (k / 5) star0) (k % 5)
/-- Block g is a row of these stars. -/
def Row (w : World) (g : Nat) (ys : List StarV) : Prop := w.rowIs g 49 (ys.length * 5) (rowF ys)
theorem Row.at {w : World} {g : Nat} {ys : List StarV} (h : Row w g ys) (j : Nat) (hj : j < ys.length) : StarAt w g (j * 5) ys[j] := by
  have e : ∀ k, k < 5 → w.cell? ⟨g, j * 5 + k, none⟩ = some (fieldV ys[j] k) := by
    intro k hk
    rw [World.rowIs.cell h (show j * 5 + k < ys.length * 5 by omega)]
    unfold rowF
    rw [show (j * 5 + k) / 5 = j by omega, show (j * 5 + k) % 5 = k by omega, List.getD, List.getElem?_eq_getElem hj]
    rfl
  exact ⟨e 0 (by omega), e 1 (by omega), e 2 (by omega), e 3 (by omega), e 4 (by omega)⟩
theorem Row.free {w : World} {g : Nat} {ys : List StarV} (h : Row w g ys) (i : Nat) : w.frozen? ⟨g, i, none⟩ = false := World.rowIs.frozen h i
theorem Row.lt {w : World} {g : Nat} {ys : List StarV} (h : Row w g ys) : g < w.heap.size := World.rowIs.lt h
theorem Row.below {w w' : World} {g : Nat} {ys : List StarV} (h : Row w g ys) (hb : Below w.heap.size w w') : Row w' g ys := World.rowIs.of_block h (hb.block g h.lt)
theorem Row.belowB {w w' : World} {g B : Nat} {ys : List StarV} (h : Row w g ys) (hB : g < B) (hb : Below B w w') : Row w' g ys := World.rowIs.of_block h (hb.block g hB)
/-- A star's five cells. -/
def putAt (w : World) (g o : Nat) (x : StarV) : World := ((((w.setCell ⟨g, o, none⟩ (.string x.s)).setCell ⟨g, o + 1, none⟩ (.int .i64 x.a)).setCell ⟨g, o + 2, none⟩ (.int .i64 x.b)).setCell ⟨g, o + 3, none⟩ (.int .i64 x.c)).setCell ⟨g, o + 4, none⟩ (.int .i64 x.d)
theorem Row.put {w : World} {g : Nat} {ys : List StarV} (h : Row w g ys) (i : Nat) (hi : i < ys.length) (x : StarV) : Row (putAt w g (i * 5) x) g (ys.set i x) := by
  have h5 := ((((World.rowIs.set h (i * 5) (.string x.s)).set (i * 5 + 1) (.int .i64 x.a)).set (i * 5 + 2) (.int .i64 x.b)).set (i * 5 + 3) (.int .i64 x.c)).set (i * 5 + 4) (.int .i64 x.d)
  unfold Row putAt
  rw [List.length_set]
  refine World.rowIs.congr h5 (fun k hk => ?_)
  unfold rowF
  by_cases c : k / 5 = i
  · have hx : (ys.set i x).getD (k / 5) star0 = x := by rw [c, List.getD, List.getElem?_set_self hi]; rfl
    rw [hx]
    rcases (by omega : k = i * 5 ∨ k = i * 5 + 1 ∨ k = i * 5 + 2 ∨ k = i * 5 + 3 ∨ k = i * 5 + 4) with rfl | rfl | rfl | rfl | rfl
    · rw [if_neg (by omega), if_neg (by omega), if_neg (by omega), if_neg (by omega), if_pos rfl, show i * 5 % 5 = 0 by omega]; rfl
    · rw [if_neg (by omega), if_neg (by omega), if_neg (by omega), if_pos rfl, show (i * 5 + 1) % 5 = 1 by omega]; rfl
    · rw [if_neg (by omega), if_neg (by omega), if_pos rfl, show (i * 5 + 2) % 5 = 2 by omega]; rfl
    · rw [if_neg (by omega), if_pos rfl, show (i * 5 + 3) % 5 = 3 by omega]; rfl
    · rw [if_pos rfl, show (i * 5 + 4) % 5 = 4 by omega]; rfl
  · have hx : (ys.set i x).getD (k / 5) star0 = ys.getD (k / 5) star0 := by rw [List.getD, List.getD, List.getElem?_set_ne (fun e => c e.symm)]
    rw [hx, if_neg (by omega), if_neg (by omega), if_neg (by omega), if_neg (by omega), if_neg (by omega)]
theorem putAt_below {w0 w : World} {B g o : Nat} {x : StarV} (h : Below B w0 w) (hg : B ≤ g) : Below B w0 (putAt w g o x) := by
  unfold putAt
  exact ((((h.setCell hg _).setCell hg _).setCell hg _).setCell hg _).setCell hg _

theorem info_star : (Tryz.prog.info? 49).map (fun i => (i.zero, i.size, i.bytes)) = some (some (.agg #[.string ByteArray.empty, .int .i64 0, .int .i64 0, .int .i64 0, .int .i64 0]), 5, 48) := by kernel_rfl
theorem star_make (n : Nat) (hn : n ≤ 1048577) (w : World) :
    (Instr.makeSlice 32 (.int .i64 (n : Int)) (.int .i64 (n : Int))).run Tryz.prog w = .ok (.slice (some ⟨w.heap.size, 0, none⟩) n n) (w.alloc (.cells (madeCells #[.string ByteArray.empty, .int .i64 0, .int .i64 0, .int .i64 0, .int .i64 0] (n * 5)) 49)) := by
  obtain ⟨i, hi, hzz⟩ := Option.map_eq_some_iff.1 info_star
  simp only [Prod.mk.injEq] at hzz
  obtain ⟨hz, hs, hb⟩ := hzz
  have hr := run_make (P := Tryz.prog) w 32 49 i _ Tryz.underlying32 hi hz .i64 .i64 (n : Int) (n : Int) (by omega) (Int.le_refl _) (by rw [hb]; omega) (by omega)
  simp only [Int.toNat_natCast, hs] at hr
  exact hr
theorem Row.made (w : World) (n : Nat) : Row (w.alloc (.cells (madeCells #[.string ByteArray.empty, .int .i64 0, .int .i64 0, .int .i64 0, .int .i64 0] (n * 5)) 49)) w.heap.size (List.replicate n star0) := by
  unfold Row
  rw [List.length_replicate]
  have h := World.rowIs_alloc w (madeCells #[.string ByteArray.empty, .int .i64 0, .int .i64 0, .int .i64 0, .int .i64 0] (n * 5)) 49 (rowF (List.replicate n star0)) (by
    intro k hk
    rw [size_madeCells] at hk
    have hx : (List.replicate n star0).getD (k / 5) star0 = star0 := by
      rw [List.getD, List.getElem?_replicate]
      split <;> rfl
    unfold rowF
    rw [hx]
    simp only [madeCells, Array.getElem?_map, Array.getElem?_range, hk, if_true, Option.map_some]
    congr 1
    have h5 : k % 5 < 5 := by omega
    show (#[Value.string ByteArray.empty, .int .i64 0, .int .i64 0, .int .i64 0, .int .i64 0] : Array Value)[k % 5]! = _
    rcases (by omega : k % 5 = 0 ∨ k % 5 = 1 ∨ k % 5 = 2 ∨ k % 5 = 3 ∨ k % 5 = 4) with e | e | e | e | e <;> rw [e] <;> rfl)
  rw [size_madeCells] at h
  exact h

def copyS (zs : List StarV) (j : Nat) : List StarV := zs.take j ++ List.replicate (zs.length - j) star0
theorem copyS_zero (zs : List StarV) : copyS zs 0 = List.replicate zs.length star0 := rfl
theorem copyS_all (zs : List StarV) : copyS zs zs.length = zs := by unfold copyS; rw [List.take_length, Nat.sub_self]; simp
theorem copyS_len (zs : List StarV) (j : Nat) (h : j ≤ zs.length) : (copyS zs j).length = zs.length := by
  unfold copyS
  rw [List.length_append, List.length_take, List.length_replicate]
  omega
theorem copyS_set (zs : List StarV) (j : Nat) (h : j < zs.length) : (copyS zs j).set j zs[j] = copyS zs (j + 1) := by
  have hl : (zs.take j).length = j := by rw [List.length_take]; omega
  unfold copyS
  rw [show zs.length - j = (zs.length - (j + 1)) + 1 by omega, List.replicate_succ, List.set_append_right _ _ (by omega), hl, Nat.sub_self, List.set_cons_zero, List.take_succ_eq_append_getElem h, List.append_assoc]
  rfl
end Go.Proofs.YtjghopepgfgebaaGreatDoor
