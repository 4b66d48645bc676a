/-
  Vectors of package spec: the contracts of l04Length, l04Dot, l04Cross, l04Done, LengthOf, DotOf, CrossOf.
-/
import Derived.Test.YtjghopepgfgebaaGreatDoorVecR
import Derived.StillTailTactics
namespace Go.Proofs.YtjghopepgfgebaaGreatDoor
open Go.RowKit
set_option linter.unusedVariables false

set_option maxHeartbeats 400000 in
theorem l04Length_any (x y z : Int) (h : inV 10000000 x y z) (w : World) :
    Calls Tryz.prog 136 #[.agg #[.int .i64 x, .int .i64 y, .int .i64 z]] w fun e w' => e = .returned (.int .i64 (len3 x y z)) ∧ Below w.heap.size w w' := by
  obtain ⟨⟨a0, a1⟩, ⟨b0, b1⟩, c0, c1⟩ := prods_bd _ _ x y z x y z h h
  have R := Lib.hid (fun w => l01RootI_any (x * x + y * y + z * z) w (by omega))
  have e1 : wrap64 (wrap64 (wrap64 (x * x) + wrap64 (y * y)) + wrap64 (z * z)) = x * x + y * y + z * z := by
    rw [IntWalk.wrap64_in (x * x) (by omega), IntWalk.wrap64_in (y * y) (by omega), IntWalk.wrap64_in (z * z) (by omega), IntWalk.wrap64_in (x * x + y * y) (by omega), IntWalk.wrap64_in (x * x + y * y + z * z) (by omega)]
  have E1 := Lib.hid e1
  clear e1 a0 a1 b0 b1 c0 c1 h
  unfold len3 sq3
  generalize rootI (x * x + y * y + z * z) = n at *
  go_enter Tryz.func136, Tryz.ntmps136
  go_wp2_with fail
  rw [E1.out]
  refine (R.out _).mono ?_
  rintro e w' ⟨rfl, rfl⟩
  go_wp2_with fail
  go_ret
  refine ⟨rfl, ?_⟩
  repeat (first | exact Below.refl _ _ | refine Below.setCell ?_ (by first | (simp; done) | omega | (simp; omega)) _ | refine Below.alloc ?_ (by first | (simp; done) | omega | (simp; omega)) _ | refine bel_drew ?_)

set_option maxHeartbeats 400000 in
theorem l04Dot_any (x y z x' y' z' : Int) (h : inV 2000000 x y z) (h' : inV 2000000 x' y' z') (w : World) :
    Calls Tryz.prog 138 #[.agg #[.int .i64 x, .int .i64 y, .int .i64 z], .agg #[.int .i64 x', .int .i64 y', .int .i64 z']] w fun e w' => e = .returned (.int .i64 (dotI x y z x' y' z')) ∧ Below w.heap.size w w' := by
  obtain ⟨⟨a0, a1⟩, ⟨b0, b1⟩, c0, c1⟩ := prods_bd _ _ x y z x' y' z' h h'
  have R := Lib.hid (fun w => l01Div_any (x * x' + y * y' + z * z') 1000000 w (by omega) (by omega) (by omega) (by omega) (by omega))
  have e1 : wrap64 (wrap64 (wrap64 (x * x') + wrap64 (y * y')) + wrap64 (z * z')) = x * x' + y * y' + z * z' := by
    rw [IntWalk.wrap64_in (x * x') (by omega), IntWalk.wrap64_in (y * y') (by omega), IntWalk.wrap64_in (z * z') (by omega), IntWalk.wrap64_in (x * x' + y * y') (by omega), IntWalk.wrap64_in (x * x' + y * y' + z * z') (by omega)]
  have E1 := Lib.hid e1
  clear e1 a0 a1 b0 b1 c0 c1 h h'
  unfold dotI
  generalize nearQ (x * x' + y * y' + z * z') 1000000 = r at *
  go_enter Tryz.func138, Tryz.ntmps138
  go_wp2_with fail
  rw [E1.out]
  refine (R.out _).mono ?_
  rintro e w' ⟨rfl, rfl⟩
  go_wp2_with fail
  go_ret
  refine ⟨rfl, ?_⟩
  repeat (first | exact Below.refl _ _ | refine Below.setCell ?_ (by first | (simp; done) | omega | (simp; omega)) _ | refine Below.alloc ?_ (by first | (simp; done) | omega | (simp; omega)) _ | refine bel_drew ?_)

theorem C3.new (w : World) (T : TypeId) (a b c : Int) : C3 (w.alloc (.cells #[.int .i64 a, .int .i64 b, .int .i64 c] T)) w.heap.size a b c := by constructor <;> simp
theorem C3.alloc {w : World} {g : Nat} {a b c : Int} (h : C3 w g a b c) (hg : g < w.heap.size) (o : Obj) : C3 (w.alloc o) g a b c := h.stays ((Below.refl _ _).alloc (Nat.le_refl _) _) hg
theorem C3.drew {w : World} {g : Nat} {a b c : Int} (h : C3 w g a b c) : C3 w.drew g a b c := ⟨h.c0, h.c1, h.c2, h.f0, h.f1, h.f2⟩
theorem quiet_w {P : Program} {f : FuncId} {args : Array Value} {w : World} {v : Value} (h : Calls P f args w fun e w' => e = .returned v ∧ w = w') : Calls P f args w fun e w' => e = .returned v ∧ w' = w :=
  h.mono fun _ _ ⟨a, b⟩ => ⟨a, b.symm⟩
set_option maxRecDepth 100000 in
set_option maxHeartbeats 1000000 in
theorem l04Cross_any (x y z x' y' z' : Int) (h : inV 2000000 x y z) (h' : inV 2000000 x' y' z') (w : World) :
    Calls Tryz.prog 137 #[.agg #[.int .i64 x, .int .i64 y, .int .i64 z], .agg #[.int .i64 x', .int .i64 y', .int .i64 z']] w fun e w' => e = .returned (.agg #[.int .i64 (crI y z' z y'), .int .i64 (crI z x' x z'), .int .i64 (crI x y' y x')]) ∧ Below w.heap.size w w' := by
  obtain ⟨⟨a0, a1⟩, ⟨b0, b1⟩, c0, c1⟩ := h
  obtain ⟨⟨a0', a1'⟩, ⟨b0', b1'⟩, c0', c1'⟩ := h'
  have p1 := pr_bd y z' 2000000 2000000 b0 b1 c0' c1'
  have p2 := pr_bd z y' 2000000 2000000 c0 c1 b0' b1'
  have p3 := pr_bd z x' 2000000 2000000 c0 c1 a0' a1'
  have p4 := pr_bd x z' 2000000 2000000 a0 a1 c0' c1'
  have p5 := pr_bd x y' 2000000 2000000 a0 a1 b0' b1'
  have p6 := pr_bd y x' 2000000 2000000 b0 b1 a0' a1'
  have D1 := Lib.hid (fun w => l01Div_any (y * z' - z * y') 1000000 w (by omega) (by omega) (by omega) (by omega) (by omega))
  have D2 := Lib.hid (fun w => l01Div_any (z * x' - x * z') 1000000 w (by omega) (by omega) (by omega) (by omega) (by omega))
  have D3 := Lib.hid (fun w => l01Div_any (x * y' - y * x') 1000000 w (by omega) (by omega) (by omega) (by omega) (by omega))
  have e1 : IntKind.i64.wrap (IntKind.i64.wrap (y * z') - IntKind.i64.wrap (z * y')) = y * z' - z * y' := by rw [IntWalk.i64_in (y * z') (by omega), IntWalk.i64_in (z * y') (by omega), IntWalk.i64_in (y * z' - z * y') (by omega)]
  have e2 : IntKind.i64.wrap (IntKind.i64.wrap (z * x') - IntKind.i64.wrap (x * z')) = z * x' - x * z' := by rw [IntWalk.i64_in (z * x') (by omega), IntWalk.i64_in (x * z') (by omega), IntWalk.i64_in (z * x' - x * z') (by omega)]
  have e3 : IntKind.i64.wrap (IntKind.i64.wrap (x * y') - IntKind.i64.wrap (y * x')) = x * y' - y * x' := by rw [IntWalk.i64_in (x * y') (by omega), IntWalk.i64_in (y * x') (by omega), IntWalk.i64_in (x * y' - y * x') (by omega)]
  have E1 := Lib.hid e1
  have E2 := Lib.hid e2
  have E3 := Lib.hid e3
  clear e1 e2 e3
  clear p1 p2 p3 p4 p5 p6 a0 a1 b0 b1 c0 c1 a0' a1' b0' b1' c0' c1'
  unfold crI at *
  generalize nearQ (y * z' - z * y') 1000000 = p at *
  generalize nearQ (z * x' - x * z') 1000000 = q at *
  generalize nearQ (x * y' - y * x') 1000000 = r at *
  go_enter Tryz.func137, Tryz.ntmps137
  go_wp2_with fail
  obtain ⟨W1, hW1⟩ : ∃ W1, W1 = ((w.alloc (.cells #[.int .i64 x, .int .i64 y, .int .i64 z] 71)).alloc (.cells #[.int .i64 x', .int .i64 y', .int .i64 z'] 71)).alloc (.cells #[.int .i64 0, .int .i64 0, .int .i64 0] 71) := ⟨_, rfl⟩
  have HB1 : Hid (Below w.heap.size w W1) := Lib.hid (by rw [hW1]; repeat (first | exact Below.refl _ _ | refine Below.alloc ?_ (by first | (simp; done) | omega | (simp; omega)) _))
  have A : C3 W1 w.heap.size x y z := by rw [hW1]; exact ((C3.new _ _ _ _ _).alloc (by simp) _).alloc (by simp; omega) _
  have B : C3 W1 (w.heap.size + 1) x' y' z' := by rw [hW1]; exact ((by simpa using C3.new (w.alloc (.cells #[.int .i64 x, .int .i64 y, .int .i64 z] 71)) 71 x' y' z')  : C3 _ (w.heap.size + 1) x' y' z').alloc (by simp) _
  have C : C3 W1 (w.heap.size + 1 + 1) 0 0 0 := by rw [hW1]; exact ((by simpa using C3.new ((w.alloc (.cells #[.int .i64 x, .int .i64 y, .int .i64 z] 71)).alloc (.cells #[.int .i64 x', .int .i64 y', .int .i64 z'] 71)) 71 0 0 0) : C3 _ (w.heap.size + 1 + 1) 0 0 0)
  rw [← hW1]
  clear hW1
  refine wp_region_still_tail 37 (by kernel_rfl) (by kernel_rfl) ?_
  obtain ⟨a0, a1, a2, fa0, fa1, fa2⟩ := A
  obtain ⟨b0, b1, b2, fb0, fb1, fb2⟩ := B
  obtain ⟨c0, c1, c2, fc0, fc1, fc2⟩ := C
  simp only [List.take_succ_cons, List.take_zero, List.drop_succ_cons, List.drop_zero]
  repeat still_step
  rw [E1.out]
  still_call (quiet_w (D1.out _))
  repeat still_step
  rw [E2.out]
  still_call (quiet_w (D2.out _))
  repeat still_step
  rw [E3.out]
  still_call (quiet_w (D3.out _))
  repeat still_step
  refine wpStill_nil ?_
  clear a0 a1 a2 fa0 fa1 fa2 b0 b1 b2 fb0 fb1 fb2 E1 E2 E3 D1 D2 D3
  go_wp2_with fail
  refine bodyPost_ret (v := .agg #[.int .i64 p, .int .i64 q, .int .i64 r]) (by first | (simp [results, Tryz.results137, go_sem]; done) | (simp [results, Tryz.results137, go_sem, *]; done)) rfl ⟨rfl, ?_⟩
  repeat (first | exact Below.refl _ _ | exact HB1.out | refine Below.setCell ?_ (by first | (simp; done) | omega | (simp; omega)) _ | refine Below.alloc ?_ (by first | (simp; done) | omega | (simp; omega)) _ | refine bel_drew ?_)
end Go.Proofs.YtjghopepgfgebaaGreatDoor
