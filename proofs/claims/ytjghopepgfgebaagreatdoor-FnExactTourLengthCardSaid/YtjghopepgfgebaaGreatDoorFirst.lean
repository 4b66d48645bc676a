/-
  The first angle for which a function answers true: the contract of firstAngle (package impl) and of its closure.
-/
import Derived.Test.YtjghopepgfgebaaGreatDoorSrch
namespace Go.Proofs.YtjghopepgfgebaaGreatDoor
open Go.RowKit
set_option linter.unusedVariables false

set_option maxHeartbeats 400000 in
theorem firstAngle_in (b0 b1 h : Nat) (cb : Array Value) (low : Int) (i : Nat) (r : Bool) (W : World) (l0 : -360000 ≤ low) (l1 : low ≤ 360000) (hi : i ≤ 360000)
    (eg : ∀ args w, (callFunc h args).run Tryz.prog w = .ok (.enter h args) w)
    (c0 : W.cell? ⟨b0, 0, none⟩ = some (.int .i64 low)) (c1 : W.cell? ⟨b1, 0, none⟩ = some (.func (.func h) #[] cb))
    (hf : Calls Tryz.prog h (#[.int .i64 (low + (i : Int))] ++ cb) W fun e w' => e = .returned (.bool r) ∧ Below W.heap.size W w') :
    Calls Tryz.prog 185 (#[.int .i64 i] ++ #[.pointer (some ⟨b1, 0, none⟩), .pointer (some ⟨b0, 0, none⟩)]) W fun e w' => e = .returned (.bool r) ∧ Below W.heap.size W w' := by
  have HF := Lib.hid hf
  clear hf
  go_enter Tryz.func185, Tryz.ntmps185
  go_wp2_with (go_at_fn h; refine HF.out.mono ?_; rintro e w' ⟨rfl, hb⟩)
  go_ret
  exact ⟨rfl, hb⟩

set_option maxHeartbeats 1000000 in
theorem firstAngle_any (low high : Int) (n h : Nat) (cb : Array Value) (p : Nat → Bool) (w : World) (l0 : -360000 ≤ low) (l1 : low ≤ 360000) (hn : high = low + n) (hn1 : n ≤ 360000)
    (eg : ∀ args w, (callFunc h args).run Tryz.prog w = .ok (.enter h args) w)
    (hf : ∀ (W : World) (i : Nat), Below w.heap.size w W → i < n → Calls Tryz.prog h (#[.int .i64 (low + (i : Int))] ++ cb) W fun e w' => e = .returned (.bool (p i)) ∧ Below W.heap.size W w')
    (hmono : ∀ a b, a ≤ b → b < n → p a = true → p b = true) :
    Calls Tryz.prog 172 #[.int .i64 low, .int .i64 high, .func (.func h) #[] cb] w fun e w' => e = .returned (.int .i64 (low + (cnt n p : Nat))) ∧ Below w.heap.size w w' := by
  obtain ⟨W0, hW0⟩ : ∃ W0, W0 = (w.alloc (.cells #[.int .i64 low] 115)).alloc (.cells #[.func (.func h) #[] cb] 186) := ⟨_, rfl⟩
  have hB0 : Below w.heap.size w W0 := by rw [hW0]; exact ((Below.refl _ w).alloc (Nat.le_refl _) _).alloc (by simp) _
  have hsize : W0.heap.size = w.heap.size + 1 + 1 := by rw [hW0]; simp
  have c0 : W0.cell? ⟨w.heap.size, 0, none⟩ = some (.int .i64 low) := by rw [hW0]; simp
  have c1 : W0.cell? ⟨w.heap.size + 1, 0, none⟩ = some (.func (.func h) #[] cb) := by rw [hW0]; simp
  have hS := search_any 185 #[.pointer (some ⟨w.heap.size + 1, 0, none⟩), .pointer (some ⟨w.heap.size, 0, none⟩)] n p W0
    (enters_of Tryz.func185 (by kernel_rfl) rfl) (by omega)
    (fun W i hb hi => firstAngle_in w.heap.size (w.heap.size + 1) h cb low i (p i) W l0 l1 (by omega) eg
      ((hb.cell (p := ⟨w.heap.size, 0, none⟩) (by rw [hsize]; simp; omega)).trans c0) ((hb.cell (p := ⟨w.heap.size + 1, 0, none⟩) (by rw [hsize]; simp)).trans c1)
      (hf W i (hB0.trans (hb.mono hB0.size)) hi)) hmono
  have hle := cnt_le n p
  have C0 := Lib.hid c0
  have HS := Lib.hid hS
  have HB := Lib.hid hB0
  have SZ := Lib.hid hsize
  have HW := Lib.hid hW0
  have dn : high - low = (n : Int) := by omega
  clear hf hmono c0 c1 hS hB0 hsize hW0 hn
  generalize cnt n p = c at *
  go_enter Tryz.func172, Tryz.ntmps172
  go_wp2_with fail
  rw [← HW.out]
  refine HS.out.mono ?_
  rintro e w' ⟨rfl, hb⟩
  have c0' : w'.cell? ⟨w.heap.size, 0, none⟩ = some (.int .i64 low) := (hb.cell (p := ⟨w.heap.size, 0, none⟩) (by rw [SZ.out]; simp; omega)).trans C0.out
  have HB2 := Lib.hid hb
  clear hb
  go_wp2_with fail
  go_ret
  exact ⟨rfl, HB.out.trans (HB2.out.mono HB.out.size)⟩
end Go.Proofs.YtjghopepgfgebaaGreatDoor
