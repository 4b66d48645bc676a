/-
  The map of turns: the contract of axisTurns (package impl), and what a look into its map gives.
-/
import Derived.Test.YtoellkbmhpekdaaDoorCore
import Derived.WideMake
import Derived.Maps.OwnOps
namespace Go.Proofs.YtoellkbmhpekdaaDoor
open Go.RowKit
set_option linter.unusedVariables false

def fn (k : Nat) : Value := .func (.func k) #[] #[]
def ents (n : Nat) : Array MapEntry := (#[⟨.int .i64 1, fn 134, 0⟩, ⟨.int .i64 2, fn 135, 1⟩, ⟨.int .i64 3, fn 136, 2⟩] : Array MapEntry).take n

theorem push_set {α : Type} (a : Array α) (x y : α) : (a.push x).setIfInBounds a.size y = a.push y := by
  apply Array.ext_getElem?
  intro i
  rw [Array.getElem?_setIfInBounds, Array.getElem?_push, Array.getElem?_push, Array.size_push]
  by_cases h : a.size = i
  · subst h; simp
  · have h' : ¬ i = a.size := fun e => h e.symm
    simp [h, h']
theorem put_new (v : World) (k : Int) (es : Array MapEntry) (c : Nat) (val : Value) (hf : Instr.findNow (.int .i64) (.int .i64 k) es.toList 0 = some none) :
    (Instr.mapUpdate 112 (.map (some v.heap.size)) (.int .i64 k) val).run Tryd.prog (v.alloc (.map es c)) = .ok () (v.alloc (.map (es.push { key := .int .i64 k, val := val, born := c }) (c + 1))) := by
  have hb : (v.alloc (.map es c)).heap[v.heap.size]? = some (.map es c) := by show (v.heap.push _)[v.heap.size]? = _; simp
  have hk := Tryd.underlying2
  have hc : (Instr.checkKey false 10000 2 (.int .i64 k)).run Tryd.prog (v.alloc (.map es c)) = .ok () (v.alloc (.map es c)) := MapKept.run_checkKey (k := .int .i64 k) hk (show MapKept.IsKey (.int .i64) (.int .i64 k) from rfl) false 9999
  simp [Instr.mapUpdate, run_underlying Tryd.underlying112, MapKept.run_getObj_map hb, hc, MapKept.run_findKey hk hf, MapKept.run_setObj_map _ hb, Result.andThen]
  show ({ heap := (v.heap.push (.map es c)).setIfInBounds v.heap.size _, tape := _, drawn := _, os := _, output := _ } : World) = _
  rw [push_set]
  rfl
theorem put1 (v : World) : (Instr.mapUpdate 112 (.map (some v.heap.size)) (.int .i64 1) (.func (.func 134) #[] #[])).run Tryd.prog (v.alloc (.map #[] 0)) = .ok () (v.alloc (.map (ents 1) 1)) := put_new v 1 #[] 0 _ rfl
theorem put2 (v : World) : (Instr.mapUpdate 112 (.map (some v.heap.size)) (.int .i64 2) (.func (.func 135) #[] #[])).run Tryd.prog (v.alloc (.map (ents 1) 1)) = .ok () (v.alloc (.map (ents 2) 2)) := put_new v 2 (ents 1) 1 _ rfl
theorem put3 (v : World) : (Instr.mapUpdate 112 (.map (some v.heap.size)) (.int .i64 3) (.func (.func 136) #[] #[])).run Tryd.prog (v.alloc (.map (ents 2) 2)) = .ok () (v.alloc (.map (ents 3) 3)) := put_new v 3 (ents 2) 2 _ rfl
set_option maxHeartbeats 400000 in
theorem axisTurns_any (w : World) :
    Calls Tryd.prog 101 #[] w fun e w' => e = .returned (.map (some w.heap.size)) ∧ w' = w.alloc (.map (ents 3) 3) := by
  have hmm := @run_makeMap Tryd.prog
  have u1 := put1 w
  have u2 := put2 w
  have u3 := put3 w
  go_enter Tryd.func101, Tryd.ntmps101
  go_wp2_with fail
  go_ret
  exact ⟨rfl, rfl⟩

/-- A look into the map. -/
theorem look_at (W : World) (g : Nat) (hb : W.heap[g]? = some (.map (ents 3) 3)) (k : Int) (v : Value) (j : Nat) (hf : Instr.findNow (.int .i64) (.int .i64 k) (ents 3).toList 0 = some (some (j, v))) :
    (Instr.lookup 112 (.map (some g)) (.int .i64 k) true).run Tryd.prog W = .ok (.tuple #[v, .bool true]) W := by
  have hk := Tryd.underlying2
  have hc : (Instr.checkKey (ents 3).isEmpty 10000 2 (.int .i64 k)).run Tryd.prog W = .ok () W := MapKept.run_checkKey (k := .int .i64 k) hk (show MapKept.IsKey (.int .i64) (.int .i64 k) from rfl) (ents 3).isEmpty 9999
  simp [Instr.lookup, run_underlying Tryd.underlying112, MapKept.run_getObj_map hb, hc, MapKept.run_findKey hk hf, Result.andThen]
theorem look_none (W : World) (g : Nat) (hb : W.heap[g]? = some (.map (ents 3) 3)) (k : Int) (hf : Instr.findNow (.int .i64) (.int .i64 k) (ents 3).toList 0 = some none) :
    (Instr.lookup 112 (.map (some g)) (.int .i64 k) true).run Tryd.prog W = .ok (.tuple #[Value.nilFunc, .bool false]) W := by
  have hk := Tryd.underlying2
  have hc : (Instr.checkKey (ents 3).isEmpty 10000 2 (.int .i64 k)).run Tryd.prog W = .ok () W := MapKept.run_checkKey (k := .int .i64 k) hk (show MapKept.IsKey (.int .i64) (.int .i64 k) from rfl) (ents 3).isEmpty 9999
  simp [Instr.lookup, run_underlying Tryd.underlying112, MapKept.run_getObj_map hb, hc, MapKept.run_findKey hk hf, Result.andThen]
theorem find_none (k : Int) (h1 : k ≠ 1) (h2 : k ≠ 2) (h3 : k ≠ 3) : Instr.findNow (.int .i64) (.int .i64 k) (ents 3).toList 0 = some none := by
  have e1 : (k == 1) = false := by simpa using h1
  have e2 : (k == 2) = false := by simpa using h2
  have e3 : (k == 3) = false := by simpa using h3
  simp [ents, Instr.findNow, Instr.sameNow, e1, e2, e3]
theorem find_1 : Instr.findNow (.int .i64) (.int .i64 1) (ents 3).toList 0 = some (some (0, .func (.func 134) #[] #[])) := rfl
theorem find_2 : Instr.findNow (.int .i64) (.int .i64 2) (ents 3).toList 0 = some (some (1, .func (.func 135) #[] #[])) := rfl
theorem find_3 : Instr.findNow (.int .i64) (.int .i64 3) (ents 3).toList 0 = some (some (2, .func (.func 136) #[] #[])) := rfl
end Go.Proofs.YtoellkbmhpekdaaDoor
