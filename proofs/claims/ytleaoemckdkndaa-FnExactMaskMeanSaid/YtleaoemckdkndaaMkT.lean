/-
  The level that masks leave (packages impl and spec).
-/
import Derived.Test.YtleaoemckdkndaaMkV
import Derived.Test.YtleaoemckdkndaaKeep
import Derived.IntWalk
import Derived.Deep.RegionHeld3
import Derived.Deep.QuietTactic
import Derived.BigQuiet
namespace Go.Proofs.Ytleaoemckdkndaa.Mk
open Go.RowKit
set_option linter.unusedVariables false

/-- A mask dims a direction. -/
def hasB (x0 x1 x2 x3 a h : Int) : Bool := decide (fwd x0 a ≤ fwd x0 x1) && inR x2 x3 [h]
def roundB (x0 x1 a : Int) : Bool := if x1 < x0 then (decide (x0 ≤ a) || decide (a ≤ x1)) else (decide (x0 ≤ a) && decide (a ≤ x1))
theorem fwd_in (x0 a : Int) (h0 : 0 ≤ x0 ∧ x0 ≤ 359999) (h2 : 0 ≤ a ∧ a ≤ 359999) : fwd x0 a = if x0 ≤ a then a - x0 else a - x0 + 360000 := by
  unfold fwd nrm
  split <;> omega
theorem hasB_eq (x0 x1 x2 x3 a h : Int) (h0 : 0 ≤ x0 ∧ x0 ≤ 359999) (h1 : 0 ≤ x1 ∧ x1 ≤ 359999) (h2 : 0 ≤ a ∧ a ≤ 359999) : hasB x0 x1 x2 x3 a h = (roundB x0 x1 a && (decide (x2 ≤ h) && decide (h ≤ x3))) := by
  unfold hasB roundB
  rw [fwd_in x0 a h0 h2, fwd_in x0 x1 h0 h1]
  congr 1
  · rw [Bool.eq_iff_iff]
    split <;> split <;> split <;> simp only [Bool.or_eq_true, Bool.and_eq_true, decide_eq_true_eq] <;> omega
  · rw [Bool.eq_iff_iff, inR_1]
    simp only [Bool.and_eq_true, decide_eq_true_eq]
def lv1 (v : Int) (x : V) (a h : Int) : Int := if hasB x.f0 x.f1 x.f2 x.f3 a h = true then v * x.f4 / 1000 else v
def lvN (zs : List V) (a h : Int) (j : Nat) : Int := (zs.take j).foldl (fun v x => lv1 v x a h) 1000
theorem lvN_next (zs : List V) (a h : Int) (j : Nat) (hj : j < zs.length) : lvN zs a h (j + 1) = lv1 (lvN zs a h j) zs[j] a h := by
  unfold lvN
  rw [List.take_succ_eq_append_getElem hj, List.foldl_append]
  rfl
theorem mul_lv {v d : Int} (h : 0 ≤ v ∧ v ≤ 1000) (k : 0 ≤ d ∧ d ≤ 1000) : 0 ≤ v * d ∧ v * d ≤ 1000000 :=
  ⟨Int.mul_nonneg h.1 k.1, Int.le_trans (Int.mul_le_mul h.2 k.2 k.1 (by omega)) (by omega)⟩
theorem lv1_bd {v a h : Int} {x : V} (hv : 0 ≤ v ∧ v ≤ 1000) (k : 0 ≤ x.f4 ∧ x.f4 ≤ 1000) : 0 ≤ lv1 v x a h ∧ lv1 v x a h ≤ 1000 := by
  have := mul_lv hv k
  unfold lv1
  split <;> omega
/-- The level of all masks at a direction. -/
def levelB (zs : List V) (a h : Int) : Int := lvN zs a h zs.length

theorem quiet_leftK {P : Program} {f : FuncId} {args : Array Value} {w : World} {n : Nat} {v : Value}
    (h : Calls P f args (w.drewN n) fun e w' => e = .returned v ∧ w.drewN n = w') : Calls P f args (w.drewN n) fun e w'' => e = .returned v ∧ ∃ m, w'' = w.drewN m :=
  h.mono fun _ _ ⟨he, hm⟩ => ⟨he, n, hm.symm⟩
theorem belN {B : Nat} {a w : World} (h : Below B a w) (n : Nat) : Below B a (w.drewN n) := ⟨h.os, h.tape, h.output, h.size, h.block⟩
theorem alD (W : World) (o : Obj) : Below W.heap.size W (W.alloc o).drew := by
  have h := (Below.refl W.heap.size W).alloc (Nat.le_refl _) o
  exact ⟨h.os, h.tape, h.output, h.size, h.block⟩
set_option maxRecDepth 100000 in
set_option maxHeartbeats 2000000 in
theorem has_any (x0 x1 x2 x3 x4 a h : Int) (h0 : 0 ≤ x0 ∧ x0 ≤ 359999) (h1 : 0 ≤ x1 ∧ x1 ≤ 359999) (h2 : 0 ≤ a ∧ a ≤ 359999) (w : World) :
    Calls Try.prog 138 #[.agg #[.int .i64 x0, .int .i64 x1, .int .i64 x2, .int .i64 x3, .int .i64 x4], .agg #[.int .i64 a, .int .i64 h]] w fun e w' => e = .returned (.bool (hasB x0 x1 x2 x3 a h)) ∧ Below w.heap.size w w' := by
  have F1 := Lib.hid (fun w => forwards_any x0 a w (by omega) (by omega) (by omega) (by omega))
  have F2 := Lib.hid (fun w => forwards_any x0 x1 w (by omega) (by omega) (by omega) (by omega))
  have I3 := Lib.hid (fun b cap w hc => within1 x2 x3 h b cap w hc)
  unfold hasB
  generalize fwd x0 a = p at *
  generalize fwd x0 x1 = q at *
  generalize inR x2 x3 [h] = r at *
  obtain ⟨W0, hW0⟩ : ∃ W0, W0 = ((w.alloc (.cells #[.int .i64 x0, .int .i64 x1, .int .i64 x2, .int .i64 x3, .int .i64 x4] 126)).alloc (.cells #[.int .i64 a, .int .i64 h] 133)) := ⟨_, rfl⟩
  have K0 : Hid (W0.cell? ⟨w.heap.size, 0, none⟩ = some (.int .i64 x0) ∧ W0.cell? ⟨w.heap.size, 1, none⟩ = some (.int .i64 x1) ∧ W0.cell? ⟨w.heap.size, 2, none⟩ = some (.int .i64 x2) ∧ W0.cell? ⟨w.heap.size, 3, none⟩ = some (.int .i64 x3) ∧ W0.cell? ⟨w.heap.size + 1, 0, none⟩ = some (.int .i64 a) ∧ W0.cell? ⟨w.heap.size + 1, 1, none⟩ = some (.int .i64 h) ∧ Below w.heap.size w W0) := Lib.hid (by
    rw [hW0]
    refine ⟨?_, ?_, ?_, ?_, ?_, ?_, ?_⟩
    all_goals first
      | (simp; done)
      | (rw [World.cell?_alloc_lt _ _ _ (by simp)]; simp; done)
      | (rw [World.cell?_alloc_at _ _ _ _ (by simp)]; rfl)
      | (repeat (first | exact Below.refl _ _ | refine Below.alloc ?_ (by first | (simp; done) | (simp; omega)) _)))
  have HW := Lib.hid hW0
  have SZ : Hid (W0.heap.size = w.heap.size + 1 + 1) := Lib.hid (by rw [hW0]; simp)
  clear hW0 h0 h1 h2
  by_cases hpq : p ≤ q
  · rw [show decide (p ≤ q) = true by simpa using hpq, Bool.true_and]
    go_enter Try.func138, Try.ntmps138
    obtain ⟨k0, k1, k2, k3, k4, k5, k6⟩ := K0.out
    go_wp2_with fail
    rw [← HW.out]
    clear HW
    have z0 : w.heap.size < W0.heap.size := by rw [SZ.out]; omega
    have z1 : w.heap.size + 1 < W0.heap.size := by rw [SZ.out]; omega
    go_region_held3 (fun w' => w'.cell? ⟨w.heap.size, 0, none⟩ = some (.int .i64 x0) ∧ w'.cell? ⟨w.heap.size, 1, none⟩ = some (.int .i64 x1) ∧ w'.cell? ⟨w.heap.size, 2, none⟩ = some (.int .i64 x2) ∧ w'.cell? ⟨w.heap.size, 3, none⟩ = some (.int .i64 x3) ∧ w'.cell? ⟨w.heap.size + 1, 0, none⟩ = some (.int .i64 a) ∧ w'.cell? ⟨w.heap.size + 1, 1, none⟩ = some (.int .i64 h) ∧ Below w.heap.size w w') (first | (exact keepW6 K0.out (drewG W0)) | (exact keepW6 K0.out (alD W0 _)) | go_keep) ((first
      | (go_at_call 143; (first
        | ((with_reducible refine (F1.out _).mono ?_); rintro e x1 ⟨rfl, rfl⟩)
        | ((with_reducible refine (F2.out _).mono ?_); rintro e x2 ⟨rfl, rfl⟩)))
      | (go_at_call 71; refine (I3.out _ _ _ (by simp)).mono ?_; rintro e x3 ⟨rfl, rfl⟩)))
    rename_i held
    have HB := Lib.hid held.2.2.2.2.2.2
    clear held k0 k1 k2 k3 k4 k5
    go_wp2_with fail
    go_ret
    exact ⟨rfl, HB.out⟩
  · rw [show decide (p ≤ q) = false by simpa using hpq, Bool.false_and]
    have hqp : q < p := by omega
    go_enter Try.func138, Try.ntmps138
    obtain ⟨k0, k1, k2, k3, k4, k5, k6⟩ := K0.out
    go_wp2_with fail
    rw [← HW.out]
    clear HW
    have z0 : w.heap.size < W0.heap.size := by rw [SZ.out]; omega
    have z1 : w.heap.size + 1 < W0.heap.size := by rw [SZ.out]; omega
    have HB := Lib.hid k6
    clear k6
    have hd : decide (p ≤ q) = false := by simpa using hpq
    clear hqp hpq
    go_quiet ((go_at_call 143; (first | (with_reducible exact quiet_leftK (F1.out _)) | (with_reducible exact quiet_leftK (F2.out _)))))
    go_wp2_with fail
    go_ret
    exact ⟨rfl, belN HB.out _⟩
end Go.Proofs.Ytleaoemckdkndaa.Mk
