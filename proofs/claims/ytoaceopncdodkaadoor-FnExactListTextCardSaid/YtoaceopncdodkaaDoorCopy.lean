/-
  The law's own helper toInt64S: a copy of a list.
-/
import Derived.Test.YtoaceopncdodkaaDoorText
namespace Go.Proofs.YtoaceopncdodkaaDoor
open Go.RowKit

/-- A slice that came in holds these numbers. -/
def ListIn (w : World) (v : Value) (zs : List Int) : Prop :=
  (∃ a cap, v = .slice a 0 cap ∧ zs = []) ∨ (∃ b off cap, v = .slice (some ⟨b, off, none⟩) zs.length cap ∧ b < w.heap.size ∧ ∀ j, (h : j < zs.length) → w.cell? ⟨b, off + j, none⟩ = some (.int .i64 zs[j]))
theorem ListIn.below {w w' : World} {v : Value} {zs : List Int} (h : ListIn w v zs) (hb : Below w.heap.size w w') : ListIn w' v zs := by
  rcases h with h | ⟨b, off, cap, hv, hl, hc⟩
  · exact .inl h
  · exact .inr ⟨b, off, cap, hv, by have := hb.size; omega, fun j hj => (hb.cell (p := ⟨b, off + j, none⟩) hl).trans (hc j hj)⟩

/-- The call returned a new copy. -/
def CopyPost (zs : List Int) (w : World) (e : Ending) (w' : World) : Prop :=
  e = .returned (.slice (some ⟨w.heap.size, 0, none⟩) zs.length zs.length) ∧ w'.ownsRow w.heap.size 2 1 (.slice (some ⟨w.heap.size, 0, none⟩) zs.length zs.length) zs.length (zs.map (Value.int .i64)) ∧ Below w.heap.size w w'

def copyTo (zs : List Int) (j : Nat) : List Int := zs.take j ++ List.replicate (zs.length - j) 0
theorem copyTo_zero (zs : List Int) : copyTo zs 0 = List.replicate zs.length 0 := rfl
theorem copyTo_all (zs : List Int) : copyTo zs zs.length = zs := by unfold copyTo; rw [List.take_length, Nat.sub_self]; simp
theorem copyTo_len (zs : List Int) (j : Nat) (h : j ≤ zs.length) : (copyTo zs j).length = zs.length := by
  unfold copyTo
  rw [List.length_append, List.length_take, List.length_replicate]
  omega
theorem copyTo_set (zs : List Int) (j : Nat) (h : j < zs.length) : (copyTo zs j).set j zs[j] = copyTo zs (j + 1) := by
  have hl : (zs.take j).length = j := by rw [List.length_take]; omega
  unfold copyTo
  rw [show zs.length - j = (zs.length - (j + 1)) + 1 by omega, List.replicate_succ, List.set_append_right _ _ (by omega), hl, Nat.sub_self, List.set_cons_zero, List.take_succ_eq_append_getElem h, List.append_assoc]
  rfl

set_option maxHeartbeats 400000 in
theorem toI_empty (a : Option Addr) (cap : Nat) (w : World) :
    Calls Tryd.prog 32 #[.slice a 0 cap] w (CopyPost [] w) := by
  have hmk : ∀ w, (Instr.makeSlice 30 (.int .i64 0) (.int .i64 0)).run Tryd.prog w = .ok (.slice (some ⟨w.heap.size, 0, none⟩) 0 0) (w.alloc (.cells #[] 2)) := fun _ => by kernel_rfl
  go_enter Tryd.func32, Tryd.ntmps32
  go_wp2_with fail
  clear hmk
  go_loop [4] (fun i => i = .int .i64 0) (fun _ => 0)
  case atStart => rfl
  case round =>
    subst hrel
    go_wp2_with fail
    go_ret
    exact ⟨rfl, World.ownsRow_lit w #[] 0 (Nat.le_refl _) (by decide) rfl, (Below.refl _ _).alloc (Nat.le_refl _) _⟩

set_option maxRecDepth 100000 in
set_option maxHeartbeats 1000000 in
theorem toI_full (b off cap : Nat) (zs : List Int) (w : World) (hbw : b < w.heap.size) (hb : zs.length ≤ 1048576) (hc : ∀ j, (h : j < zs.length) → w.cell? ⟨b, off + j, none⟩ = some (.int .i64 zs[j])) :
    Calls Tryd.prog 32 #[.slice (some ⟨b, off, none⟩) zs.length cap] w (CopyPost zs w) := by
  have HC := Lib.hid hc
  clear hc
  have hmk := run_make_row' (P := Tryd.prog) 30 2 (.int .i64 0) 8 Tryd.underlying30 info_i64 rfl .i64 .i64 zs.length (by omega) (by omega)
  have hmade : (w.alloc (.cells (madeCells #[.int .i64 0] zs.length) 2)).ownsRow w.heap.size 2 1 (.slice (some ⟨w.heap.size, 0, none⟩) zs.length zs.length) zs.length ((copyTo zs 0).map (Value.int .i64)) := by
    have h1 := World.ownsRow_lit (base := w.heap.size) (e := 2) (size := 1) w (madeCells #[.int .i64 0] zs.length) zs.length (Nat.le_refl _) (by unfold maxLen; omega) (by rw [size_madeCells, Nat.mul_one])
    rw [made_list] at h1
    rw [copyTo_zero, List.map_replicate]
    exact h1
  have MADE := Lib.hid hmade
  clear hmade
  go_enter Tryd.func32, Tryd.ntmps32
  go_wp2_with fail
  clear hmk
  go_loopw [4] (fun i wr => ∃ j : Nat, i = .int .i64 (j : Int) ∧ j ≤ zs.length ∧ wr.ownsRow w.heap.size 2 1 (.slice (some ⟨w.heap.size, 0, none⟩) zs.length zs.length) zs.length ((copyTo zs j).map (Value.int .i64)) ∧ Below w.heap.size w wr)
    (fun i _ => zs.length - (intOf i).toNat)
  case atStart => exact ⟨0, rfl, Nat.zero_le _, MADE.out, (Below.refl _ _).alloc (Nat.le_refl _) _⟩
  case round =>
    obtain ⟨j, rfl, hj, hown, hbel⟩ := hrel
    by_cases hlt : j < zs.length
    · have c1 : wr.cell? ⟨b, off + j, none⟩ = some (.int .i64 zs[j]) := (hbel.cell (p := ⟨b, off + j, none⟩) hbw).trans (HC.out j hlt)
      have CS := Lib.hid (copyTo_set zs j hlt)
      have CL := Lib.hid (copyTo_len zs j hj)
      have c2 : ∃ x, wr.cell? ⟨w.heap.size, j, none⟩ = some (.int .i64 x) := by
        rw [hown.cellAt j (by omega), List.getElem?_map, List.getElem?_eq_getElem (by rw [CL.out]; exact hlt)]
        exact ⟨_, rfl⟩
      obtain ⟨x, c2⟩ := c2
      have f2 : wr.frozen? ⟨w.heap.size, j, none⟩ = false := hown.frozenAt j
      generalize zs[j] = z at *
      have hst := (hown.stored j (.int .i64 z)).1
      rw [← List.map_set, CS.out] at hst
      have ST := Lib.hid hst
      have BL := Lib.hid (hbel.setCell (p := ⟨w.heap.size, j, none⟩) (Nat.le_refl _) (.int .i64 z))
      clear hown hst hbel
      go_wp2_with fail
      go_roundw
      case rel => exact ⟨j + 1, by go_num, by omega, ST.out, BL.out⟩
      case measure => (simp [intOf] <;> omega)
    · obtain rfl : j = zs.length := by omega
      rw [copyTo_all] at hown
      go_wp2_with fail
      go_ret
      exact ⟨rfl, hown, hbel⟩
theorem toI_any {v : Value} {zs : List Int} {w : World} (h : ListIn w v zs) (hb : zs.length ≤ 1048576) :
    Calls Tryd.prog 32 #[v] w (CopyPost zs w) := by
  rcases h with ⟨a, cap, rfl, rfl⟩ | ⟨b, off, cap, rfl, hl, hc⟩
  · exact toI_empty a cap w
  · exact toI_full b off cap zs w hl hb hc
theorem ListIn.len {w : World} {v : Value} {zs : List Int} (h : ListIn w v zs) : ∃ a cap, v = .slice a zs.length cap := by
  rcases h with ⟨a, cap, rfl, rfl⟩ | ⟨b, off, cap, rfl, _⟩
  · exact ⟨a, cap, rfl⟩
  · exact ⟨_, cap, rfl⟩
end Go.Proofs.YtoaceopncdodkaaDoor
