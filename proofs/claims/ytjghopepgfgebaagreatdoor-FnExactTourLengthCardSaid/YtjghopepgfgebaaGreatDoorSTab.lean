/-
  The table of sines of package spec: the contract of l02Table.
-/
import Derived.Test.YtjghopepgfgebaaGreatDoorNrm
import Derived.Test.YtjghopepgfgebaaGreatDoorQ2
import Derived.IntWalk
namespace Go.Proofs.YtjghopepgfgebaaGreatDoor
open Go.RowKit
set_option linter.unusedVariables false

theorem quiet_left {P : Program} {f : FuncId} {args : Array Value} {w : World} {n : Nat} {v : Value}
    (h : Calls P f args (w.drewN n) fun e w' => e = .returned v ∧ w.drewN n = w') : Calls P f args (w.drewN n) fun e w'' => e = .returned v ∧ ∃ m, w'' = w.drewN m :=
  h.mono fun _ _ ⟨he, hm⟩ => ⟨he, n, hm.symm⟩

set_option maxRecDepth 100000 in
set_option maxHeartbeats 400000 in
theorem l02Table_at (w : World) :
    Calls Tryz.prog 146 #[] w fun e w' => e = .returned (.slice (some ⟨w.heap.size, 0, none⟩) 91 91) ∧ w' = w.alloc (.cells (sinT.map (Value.int .i64)).toArray 2) := by
  go_enter Tryz.func146, Tryz.ntmps146
  go_wp2_with fail
  go_ret
  exact ⟨rfl, rfl⟩
/-- The table lies in block g. -/
def TabAt (w : World) (g : Nat) : Prop := ∀ j, j < 91 → w.cell? ⟨g, j, none⟩ = some (.int .i64 (tab j))
theorem l02Table_any (w : World) :
    Calls Tryz.prog 146 #[] w fun e w' => e = .returned (.slice (some ⟨w.heap.size, 0, none⟩) 91 91) ∧ TabAt w' w.heap.size ∧ Below w.heap.size w w' := by
  refine (l02Table_at w).mono ?_
  rintro e w' ⟨rfl, rfl⟩
  refine ⟨rfl, fun j hj => ?_, (Below.refl _ _).alloc (Nat.le_refl _) _⟩
  have hl : sinT.length = 91 := rfl
  rw [World.cell?_alloc_at _ _ _ _ (by first | (simp; done) | (simp; omega))]
  simp only [List.getElem?_toArray, List.getElem?_map]
  rw [List.getElem?_eq_getElem (by omega)]
  unfold tab
  rw [List.getD, List.getElem?_eq_getElem (by omega)]
  rfl
end Go.Proofs.YtjghopepgfgebaaGreatDoor
