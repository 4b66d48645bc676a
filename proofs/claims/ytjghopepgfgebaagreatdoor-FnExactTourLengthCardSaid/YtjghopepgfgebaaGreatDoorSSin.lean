/-
  Sines of package spec: the contracts of l02Sine and l02Cosine.
-/
import Derived.Test.YtjghopepgfgebaaGreatDoorSTab
import Derived.RegionTactic
import Derived.Deep.QuietTactic
import Derived.BigQuiet
namespace Go.Proofs.YtjghopepgfgebaaGreatDoor
open Go.RowKit
set_option linter.unusedVariables false

set_option maxRecDepth 100000 in
set_option maxHeartbeats 1000000 in
theorem l02Sine_1z (a n p : Int) (k : Nat) (h0 : -9223372036854775808 ≤ a) (h1 : a ≤ 9223372036854775807) (hn : nrm a = n) (l0 : 0 ≤ n) (l1 : n ≤ 90000) (hk : (n) / 1000 = (k : Int)) (hp : p = tab k) (p0 : 0 ≤ p) (p1 : p ≤ 1000000) (hr : (n) % 1000 = 0) (w : World) :
    Calls Tryz.prog 117 #[.int .i64 a] w fun e w' => e = .returned (.int .i64 ((p))) ∧ Below w.heap.size w w' := by
  have F := Lib.hid (l02Normal_any a w h0 h1)
  rw [hn] at F
  clear hn
  have x0 : 0 ≤ n := by omega
  have x1 : n ≤ 90000 := by omega
  have k0 : (0 : Int) ≤ (k : Int) := by omega
  have k1 : (k : Int) < 91 := by omega
  have HP := Lib.hid hp
  have HK := Lib.hid hk
  have HR := Lib.hid hr
  clear hk hr hp
  go_enter Tryz.func117, Tryz.ntmps117
  go_wp2_with fail
  refine F.out.mono ?_
  rintro e w' ⟨rfl, rfl⟩
  go_wp2_with fail
  refine (l02Table_any _).mono ?_
  rintro e w1 ⟨rfl, ht, hb⟩
  have c1 := ht k (by omega)
  rw [← HP.out] at c1
  have HB := Lib.hid hb
  clear hb ht
  generalize w.heap.size = g at c1 ⊢
  have hk := HK.out
  have hr := HR.out
  go_wp2_with fail
  go_ret
  exact ⟨rfl, HB.out⟩

set_option maxRecDepth 100000 in
set_option maxHeartbeats 1000000 in
theorem l02Sine_1p (a n p : Int) (k : Nat) (h0 : -9223372036854775808 ≤ a) (h1 : a ≤ 9223372036854775807) (hn : nrm a = n) (l0 : 0 ≤ n) (l1 : n ≤ 90000) (hk : (n) / 1000 = (k : Int)) (hp : p = tab k) (p0 : 0 ≤ p) (p1 : p ≤ 1000000) (r : Nat) (hr : (n) % 1000 = (r : Int)) (r0 : 0 < r) (k' : Nat) (ek : (k : Int) + 1 = (k' : Int)) (p' : Int) (hp' : p' = tab k') (z0 : p ≤ p') (z1 : p' ≤ 1000000) (w : World) :
    Calls Tryz.prog 117 #[.int .i64 a] w fun e w' => e = .returned (.int .i64 ((p + nearQ ((p' - p) * (r : Int)) 1000))) ∧ Below w.heap.size w w' := by
  have F := Lib.hid (l02Normal_any a w h0 h1)
  rw [hn] at F
  clear hn
  have x0 : 0 ≤ n := by omega
  have x1 : n ≤ 90000 := by omega
  have k0 : (0 : Int) ≤ (k : Int) := by omega
  have k1 : (k : Int) < 91 := by omega
  have j0 : (0 : Int) ≤ (k' : Int) := by omega
  have j1 : (k' : Int) < 91 := by omega
  have r1 : (r : Int) < 1000 := by omega
  have rd : (0 : Int) < (r : Int) := by omega
  have b0 : 0 ≤ (p' - p) * (r : Int) := Int.mul_nonneg (by omega) (by omega)
  have b1 : (p' - p) * (r : Int) ≤ 1000000 * 1000 := Int.mul_le_mul (by omega) (by omega) (by omega) (by omega)
  obtain ⟨q0, q1⟩ := nearQ_bd ((p' - p) * (r : Int)) 1000 1000000000 (by omega) (by omega) (by omega)
  have D := Lib.hid (fun w => l01Div_any ((p' - p) * (r : Int)) 1000 w (by omega) (by omega) (by omega) (by omega) (by omega))
  generalize nearQ ((p' - p) * (r : Int)) 1000 = N at *
  generalize hM : (p' - p) * (r : Int) = M at *
  have HM := Lib.hid hM
  clear hM
  have m1 : IntKind.i64.wrap (p' - p) = p' - p := IntWalk.i64_in _ (by omega)
  have m2 : IntKind.i64.wrap M = M := IntWalk.i64_in _ (by omega)
  have m3 : IntKind.i64.wrap (p + N) = p + N := IntWalk.i64_in _ (by omega)
  have M1 := Lib.hid m1
  have M2 := Lib.hid m2
  have M3 := Lib.hid m3
  clear m1 m2 m3
  have HP' := Lib.hid hp'
  have EK := Lib.hid ek
  clear hp' ek
  have HP := Lib.hid hp
  have HK := Lib.hid hk
  have HR := Lib.hid hr
  clear hk hr hp
  go_enter Tryz.func117, Tryz.ntmps117
  go_wp2_with fail
  refine F.out.mono ?_
  rintro e w' ⟨rfl, rfl⟩
  go_wp2_with fail
  refine (l02Table_any _).mono ?_
  rintro e w1 ⟨rfl, ht, hb⟩
  have c1 := ht k (by omega)
  rw [← HP.out] at c1
  have c2 := ht k' (by omega)
  rw [← HP'.out] at c2
  have HB := Lib.hid hb
  clear hb ht
  generalize w.heap.size = g at c1 c2 ⊢
  have hk := HK.out
  have hr := HR.out
  have ek := EK.out
  have hM := HM.out
  have m1 := M1.out
  have m2 := M2.out
  have m3 := M3.out
  go_wp2_with fail
  go_quiet ((go_at_call 120; exact quiet_left (D.out _)))
  go_wp2_with fail
  go_ret
  exact ⟨rfl, bel_drewN HB.out _⟩

set_option maxRecDepth 100000 in
set_option maxHeartbeats 1000000 in
theorem l02Sine_2z (a n p : Int) (k : Nat) (h0 : -9223372036854775808 ≤ a) (h1 : a ≤ 9223372036854775807) (hn : nrm a = n) (l0 : 90000 < n) (l1 : n < 180000) (hk : (180000 - n) / 1000 = (k : Int)) (hp : p = tab k) (p0 : 0 ≤ p) (p1 : p ≤ 1000000) (hr : (180000 - n) % 1000 = 0) (w : World) :
    Calls Tryz.prog 117 #[.int .i64 a] w fun e w' => e = .returned (.int .i64 ((p))) ∧ Below w.heap.size w w' := by
  have F := Lib.hid (l02Normal_any a w h0 h1)
  rw [hn] at F
  clear hn
  have x0 : 0 ≤ 180000 - n := by omega
  have x1 : 180000 - n ≤ 90000 := by omega
  have k0 : (0 : Int) ≤ (k : Int) := by omega
  have k1 : (k : Int) < 91 := by omega
  have HP := Lib.hid hp
  have HK := Lib.hid hk
  have HR := Lib.hid hr
  clear hk hr hp
  go_enter Tryz.func117, Tryz.ntmps117
  go_wp2_with fail
  refine F.out.mono ?_
  rintro e w' ⟨rfl, rfl⟩
  go_wp2_with fail
  refine (l02Table_any _).mono ?_
  rintro e w1 ⟨rfl, ht, hb⟩
  have c1 := ht k (by omega)
  rw [← HP.out] at c1
  have HB := Lib.hid hb
  clear hb ht
  generalize w.heap.size = g at c1 ⊢
  generalize 180000 - n = x at *
  have hk := HK.out
  have hr := HR.out
  go_wp2_with fail
  go_ret
  exact ⟨rfl, HB.out⟩

set_option maxRecDepth 100000 in
set_option maxHeartbeats 1000000 in
theorem l02Sine_2p (a n p : Int) (k : Nat) (h0 : -9223372036854775808 ≤ a) (h1 : a ≤ 9223372036854775807) (hn : nrm a = n) (l0 : 90000 < n) (l1 : n < 180000) (hk : (180000 - n) / 1000 = (k : Int)) (hp : p = tab k) (p0 : 0 ≤ p) (p1 : p ≤ 1000000) (r : Nat) (hr : (180000 - n) % 1000 = (r : Int)) (r0 : 0 < r) (k' : Nat) (ek : (k : Int) + 1 = (k' : Int)) (p' : Int) (hp' : p' = tab k') (z0 : p ≤ p') (z1 : p' ≤ 1000000) (w : World) :
    Calls Tryz.prog 117 #[.int .i64 a] w fun e w' => e = .returned (.int .i64 ((p + nearQ ((p' - p) * (r : Int)) 1000))) ∧ Below w.heap.size w w' := by
  have F := Lib.hid (l02Normal_any a w h0 h1)
  rw [hn] at F
  clear hn
  have x0 : 0 ≤ 180000 - n := by omega
  have x1 : 180000 - n ≤ 90000 := by omega
  have k0 : (0 : Int) ≤ (k : Int) := by omega
  have k1 : (k : Int) < 91 := by omega
  have j0 : (0 : Int) ≤ (k' : Int) := by omega
  have j1 : (k' : Int) < 91 := by omega
  have r1 : (r : Int) < 1000 := by omega
  have rd : (0 : Int) < (r : Int) := by omega
  have b0 : 0 ≤ (p' - p) * (r : Int) := Int.mul_nonneg (by omega) (by omega)
  have b1 : (p' - p) * (r : Int) ≤ 1000000 * 1000 := Int.mul_le_mul (by omega) (by omega) (by omega) (by omega)
  obtain ⟨q0, q1⟩ := nearQ_bd ((p' - p) * (r : Int)) 1000 1000000000 (by omega) (by omega) (by omega)
  have D := Lib.hid (fun w => l01Div_any ((p' - p) * (r : Int)) 1000 w (by omega) (by omega) (by omega) (by omega) (by omega))
  generalize nearQ ((p' - p) * (r : Int)) 1000 = N at *
  generalize hM : (p' - p) * (r : Int) = M at *
  have HM := Lib.hid hM
  clear hM
  have m1 : IntKind.i64.wrap (p' - p) = p' - p := IntWalk.i64_in _ (by omega)
  have m2 : IntKind.i64.wrap M = M := IntWalk.i64_in _ (by omega)
  have m3 : IntKind.i64.wrap (p + N) = p + N := IntWalk.i64_in _ (by omega)
  have M1 := Lib.hid m1
  have M2 := Lib.hid m2
  have M3 := Lib.hid m3
  clear m1 m2 m3
  have HP' := Lib.hid hp'
  have EK := Lib.hid ek
  clear hp' ek
  have HP := Lib.hid hp
  have HK := Lib.hid hk
  have HR := Lib.hid hr
  clear hk hr hp
  go_enter Tryz.func117, Tryz.ntmps117
  go_wp2_with fail
  refine F.out.mono ?_
  rintro e w' ⟨rfl, rfl⟩
  go_wp2_with fail
  refine (l02Table_any _).mono ?_
  rintro e w1 ⟨rfl, ht, hb⟩
  have c1 := ht k (by omega)
  rw [← HP.out] at c1
  have c2 := ht k' (by omega)
  rw [← HP'.out] at c2
  have HB := Lib.hid hb
  clear hb ht
  generalize w.heap.size = g at c1 c2 ⊢
  generalize 180000 - n = x at *
  have hk := HK.out
  have hr := HR.out
  have ek := EK.out
  have hM := HM.out
  have m1 := M1.out
  have m2 := M2.out
  have m3 := M3.out
  go_wp2_with fail
  go_quiet ((go_at_call 120; exact quiet_left (D.out _)))
  go_wp2_with fail
  go_ret
  exact ⟨rfl, bel_drewN HB.out _⟩

set_option maxRecDepth 100000 in
set_option maxHeartbeats 1000000 in
theorem l02Sine_3z (a n p : Int) (k : Nat) (h0 : -9223372036854775808 ≤ a) (h1 : a ≤ 9223372036854775807) (hn : nrm a = n) (l0 : 180000 ≤ n) (l1 : n ≤ 270000) (hk : (n - 180000) / 1000 = (k : Int)) (hp : p = tab k) (p0 : 0 ≤ p) (p1 : p ≤ 1000000) (hr : (n - 180000) % 1000 = 0) (w : World) :
    Calls Tryz.prog 117 #[.int .i64 a] w fun e w' => e = .returned (.int .i64 (-(p))) ∧ Below w.heap.size w w' := by
  have F := Lib.hid (l02Normal_any a w h0 h1)
  rw [hn] at F
  clear hn
  have x0 : 0 ≤ n - 180000 := by omega
  have x1 : n - 180000 ≤ 90000 := by omega
  have k0 : (0 : Int) ≤ (k : Int) := by omega
  have k1 : (k : Int) < 91 := by omega
  have HP := Lib.hid hp
  have HK := Lib.hid hk
  have HR := Lib.hid hr
  clear hk hr hp
  go_enter Tryz.func117, Tryz.ntmps117
  go_wp2_with fail
  refine F.out.mono ?_
  rintro e w' ⟨rfl, rfl⟩
  go_wp2_with fail
  refine (l02Table_any _).mono ?_
  rintro e w1 ⟨rfl, ht, hb⟩
  have c1 := ht k (by omega)
  rw [← HP.out] at c1
  have HB := Lib.hid hb
  clear hb ht
  generalize w.heap.size = g at c1 ⊢
  generalize n - 180000 = x at *
  have hk := HK.out
  have hr := HR.out
  go_wp2_with fail
  go_ret
  exact ⟨rfl, HB.out⟩

set_option maxRecDepth 100000 in
set_option maxHeartbeats 1000000 in
theorem l02Sine_3p (a n p : Int) (k : Nat) (h0 : -9223372036854775808 ≤ a) (h1 : a ≤ 9223372036854775807) (hn : nrm a = n) (l0 : 180000 ≤ n) (l1 : n ≤ 270000) (hk : (n - 180000) / 1000 = (k : Int)) (hp : p = tab k) (p0 : 0 ≤ p) (p1 : p ≤ 1000000) (r : Nat) (hr : (n - 180000) % 1000 = (r : Int)) (r0 : 0 < r) (k' : Nat) (ek : (k : Int) + 1 = (k' : Int)) (p' : Int) (hp' : p' = tab k') (z0 : p ≤ p') (z1 : p' ≤ 1000000) (w : World) :
    Calls Tryz.prog 117 #[.int .i64 a] w fun e w' => e = .returned (.int .i64 (-(p + nearQ ((p' - p) * (r : Int)) 1000))) ∧ Below w.heap.size w w' := by
  have F := Lib.hid (l02Normal_any a w h0 h1)
  rw [hn] at F
  clear hn
  have x0 : 0 ≤ n - 180000 := by omega
  have x1 : n - 180000 ≤ 90000 := by omega
  have k0 : (0 : Int) ≤ (k : Int) := by omega
  have k1 : (k : Int) < 91 := by omega
  have j0 : (0 : Int) ≤ (k' : Int) := by omega
  have j1 : (k' : Int) < 91 := by omega
  have r1 : (r : Int) < 1000 := by omega
  have rd : (0 : Int) < (r : Int) := by omega
  have b0 : 0 ≤ (p' - p) * (r : Int) := Int.mul_nonneg (by omega) (by omega)
  have b1 : (p' - p) * (r : Int) ≤ 1000000 * 1000 := Int.mul_le_mul (by omega) (by omega) (by omega) (by omega)
  obtain ⟨q0, q1⟩ := nearQ_bd ((p' - p) * (r : Int)) 1000 1000000000 (by omega) (by omega) (by omega)
  have D := Lib.hid (fun w => l01Div_any ((p' - p) * (r : Int)) 1000 w (by omega) (by omega) (by omega) (by omega) (by omega))
  generalize nearQ ((p' - p) * (r : Int)) 1000 = N at *
  generalize hM : (p' - p) * (r : Int) = M at *
  have HM := Lib.hid hM
  clear hM
  have m1 : IntKind.i64.wrap (p' - p) = p' - p := IntWalk.i64_in _ (by omega)
  have m2 : IntKind.i64.wrap M = M := IntWalk.i64_in _ (by omega)
  have m3 : IntKind.i64.wrap (p + N) = p + N := IntWalk.i64_in _ (by omega)
  have M1 := Lib.hid m1
  have M2 := Lib.hid m2
  have M3 := Lib.hid m3
  clear m1 m2 m3
  have HP' := Lib.hid hp'
  have EK := Lib.hid ek
  clear hp' ek
  have HP := Lib.hid hp
  have HK := Lib.hid hk
  have HR := Lib.hid hr
  clear hk hr hp
  go_enter Tryz.func117, Tryz.ntmps117
  go_wp2_with fail
  refine F.out.mono ?_
  rintro e w' ⟨rfl, rfl⟩
  go_wp2_with fail
  refine (l02Table_any _).mono ?_
  rintro e w1 ⟨rfl, ht, hb⟩
  have c1 := ht k (by omega)
  rw [← HP.out] at c1
  have c2 := ht k' (by omega)
  rw [← HP'.out] at c2
  have HB := Lib.hid hb
  clear hb ht
  generalize w.heap.size = g at c1 c2 ⊢
  generalize n - 180000 = x at *
  have hk := HK.out
  have hr := HR.out
  have ek := EK.out
  have hM := HM.out
  have m1 := M1.out
  have m2 := M2.out
  have m3 := M3.out
  go_wp2_with fail
  go_quiet ((go_at_call 120; exact quiet_left (D.out _)))
  go_wp2_with fail
  go_ret
  exact ⟨rfl, bel_drewN HB.out _⟩

set_option maxRecDepth 100000 in
set_option maxHeartbeats 1000000 in
theorem l02Sine_4z (a n p : Int) (k : Nat) (h0 : -9223372036854775808 ≤ a) (h1 : a ≤ 9223372036854775807) (hn : nrm a = n) (l0 : 270000 < n) (l1 : n < 360000) (hk : (180000 - (n - 180000)) / 1000 = (k : Int)) (hp : p = tab k) (p0 : 0 ≤ p) (p1 : p ≤ 1000000) (hr : (180000 - (n - 180000)) % 1000 = 0) (w : World) :
    Calls Tryz.prog 117 #[.int .i64 a] w fun e w' => e = .returned (.int .i64 (-(p))) ∧ Below w.heap.size w w' := by
  have F := Lib.hid (l02Normal_any a w h0 h1)
  rw [hn] at F
  clear hn
  have x0 : 0 ≤ 180000 - (n - 180000) := by omega
  have x1 : 180000 - (n - 180000) ≤ 90000 := by omega
  have k0 : (0 : Int) ≤ (k : Int) := by omega
  have k1 : (k : Int) < 91 := by omega
  have HP := Lib.hid hp
  have HK := Lib.hid hk
  have HR := Lib.hid hr
  clear hk hr hp
  go_enter Tryz.func117, Tryz.ntmps117
  go_wp2_with fail
  refine F.out.mono ?_
  rintro e w' ⟨rfl, rfl⟩
  go_wp2_with fail
  refine (l02Table_any _).mono ?_
  rintro e w1 ⟨rfl, ht, hb⟩
  have c1 := ht k (by omega)
  rw [← HP.out] at c1
  have HB := Lib.hid hb
  clear hb ht
  generalize w.heap.size = g at c1 ⊢
  generalize 180000 - (n - 180000) = x at *
  have hk := HK.out
  have hr := HR.out
  go_wp2_with fail
  go_ret
  exact ⟨rfl, HB.out⟩

set_option maxRecDepth 100000 in
set_option maxHeartbeats 1000000 in
theorem l02Sine_4p (a n p : Int) (k : Nat) (h0 : -9223372036854775808 ≤ a) (h1 : a ≤ 9223372036854775807) (hn : nrm a = n) (l0 : 270000 < n) (l1 : n < 360000) (hk : (180000 - (n - 180000)) / 1000 = (k : Int)) (hp : p = tab k) (p0 : 0 ≤ p) (p1 : p ≤ 1000000) (r : Nat) (hr : (180000 - (n - 180000)) % 1000 = (r : Int)) (r0 : 0 < r) (k' : Nat) (ek : (k : Int) + 1 = (k' : Int)) (p' : Int) (hp' : p' = tab k') (z0 : p ≤ p') (z1 : p' ≤ 1000000) (w : World) :
    Calls Tryz.prog 117 #[.int .i64 a] w fun e w' => e = .returned (.int .i64 (-(p + nearQ ((p' - p) * (r : Int)) 1000))) ∧ Below w.heap.size w w' := by
  have F := Lib.hid (l02Normal_any a w h0 h1)
  rw [hn] at F
  clear hn
  have x0 : 0 ≤ 180000 - (n - 180000) := by omega
  have x1 : 180000 - (n - 180000) ≤ 90000 := by omega
  have k0 : (0 : Int) ≤ (k : Int) := by omega
  have k1 : (k : Int) < 91 := by omega
  have j0 : (0 : Int) ≤ (k' : Int) := by omega
  have j1 : (k' : Int) < 91 := by omega
  have r1 : (r : Int) < 1000 := by omega
  have rd : (0 : Int) < (r : Int) := by omega
  have b0 : 0 ≤ (p' - p) * (r : Int) := Int.mul_nonneg (by omega) (by omega)
  have b1 : (p' - p) * (r : Int) ≤ 1000000 * 1000 := Int.mul_le_mul (by omega) (by omega) (by omega) (by omega)
  obtain ⟨q0, q1⟩ := nearQ_bd ((p' - p) * (r : Int)) 1000 1000000000 (by omega) (by omega) (by omega)
  have D := Lib.hid (fun w => l01Div_any ((p' - p) * (r : Int)) 1000 w (by omega) (by omega) (by omega) (by omega) (by omega))
  generalize nearQ ((p' - p) * (r : Int)) 1000 = N at *
  generalize hM : (p' - p) * (r : Int) = M at *
  have HM := Lib.hid hM
  clear hM
  have m1 : IntKind.i64.wrap (p' - p) = p' - p := IntWalk.i64_in _ (by omega)
  have m2 : IntKind.i64.wrap M = M := IntWalk.i64_in _ (by omega)
  have m3 : IntKind.i64.wrap (p + N) = p + N := IntWalk.i64_in _ (by omega)
  have M1 := Lib.hid m1
  have M2 := Lib.hid m2
  have M3 := Lib.hid m3
  clear m1 m2 m3
  have HP' := Lib.hid hp'
  have EK := Lib.hid ek
  clear hp' ek
  have HP := Lib.hid hp
  have HK := Lib.hid hk
  have HR := Lib.hid hr
  clear hk hr hp
  go_enter Tryz.func117, Tryz.ntmps117
  go_wp2_with fail
  refine F.out.mono ?_
  rintro e w' ⟨rfl, rfl⟩
  go_wp2_with fail
  refine (l02Table_any _).mono ?_
  rintro e w1 ⟨rfl, ht, hb⟩
  have c1 := ht k (by omega)
  rw [← HP.out] at c1
  have c2 := ht k' (by omega)
  rw [← HP'.out] at c2
  have HB := Lib.hid hb
  clear hb ht
  generalize w.heap.size = g at c1 c2 ⊢
  generalize 180000 - (n - 180000) = x at *
  have hk := HK.out
  have hr := HR.out
  have ek := EK.out
  have hM := HM.out
  have m1 := M1.out
  have m2 := M2.out
  have m3 := M3.out
  go_wp2_with fail
  go_quiet ((go_at_call 120; exact quiet_left (D.out _)))
  go_wp2_with fail
  go_ret
  exact ⟨rfl, bel_drewN HB.out _⟩

theorem l02Sine_any (a : Int) (h0 : -9223372036854775808 ≤ a) (h1 : a ≤ 9223372036854775807) (w : World) :
    Calls Tryz.prog 117 #[.int .i64 a] w fun e w' => e = .returned (.int .i64 (sinI a)) ∧ Below w.heap.size w w' := by
  obtain ⟨n0, n1⟩ := nrm_bd a
  rw [← sinI_nrm]
  generalize hn : nrm a = n at *
  have key : ∀ x : Int, 0 ≤ x → x ≤ 90000 → ∃ k : Nat, x / 1000 = (k : Int) ∧ 0 ≤ tab k ∧ tab k ≤ 1000000 ∧ ((x % 1000 = 0 ∧ qs x = tab k) ∨
      ∃ r : Nat, x % 1000 = (r : Int) ∧ 0 < r ∧ tab k ≤ tab (k + 1) ∧ tab (k + 1) ≤ 1000000 ∧ qs x = tab k + nearQ ((tab (k + 1) - tab k) * (r : Int)) 1000) := by
    intro x x0 x1
    obtain ⟨k, hk⟩ := Int.eq_ofNat_of_zero_le (show 0 ≤ x / 1000 by omega)
    obtain ⟨r, hr⟩ := Int.eq_ofNat_of_zero_le (show 0 ≤ x % 1000 by omega)
    have t := tab_bd k (by omega)
    refine ⟨k, hk, t.1, t.2, ?_⟩
    have hq : (x / 1000).toNat = k := by omega
    by_cases c : x % 1000 = 0
    · refine .inl ⟨c, ?_⟩
      unfold qs
      rw [hq, c, Int.mul_zero]
      omega
    · have t2 := tab_bd (k + 1) (by omega)
      have st := tab_step k (by omega)
      refine .inr ⟨r, hr, by omega, st, t2.2, ?_⟩
      unfold qs
      rw [hq, hr, nearQ_pp _ _ (Int.mul_nonneg (by omega) (by omega)) (by omega)]
      rfl
  by_cases c1 : n ≤ 90000
  · rw [sinI_q1 n n0 c1]
    obtain ⟨k, hk, p0, p1, ⟨hr, he⟩ | ⟨r, hr, r0, st, t2, he⟩⟩ := key n n0 c1
    · rw [he]; exact l02Sine_1z a n _ k h0 h1 hn n0 c1 hk rfl p0 p1 hr w
    · rw [he]; exact l02Sine_1p a n _ k h0 h1 hn n0 c1 hk rfl p0 p1 r hr r0 (k + 1) (by omega) _ rfl st t2 w
  · by_cases c2 : n < 180000
    · rw [sinI_q2 n (by omega) (by omega)]
      obtain ⟨k, hk, p0, p1, ⟨hr, he⟩ | ⟨r, hr, r0, st, t2, he⟩⟩ := key (180000 - n) (by omega) (by omega)
      · rw [he]; exact l02Sine_2z a n _ k h0 h1 hn (by omega) c2 hk rfl p0 p1 hr w
      · rw [he]; exact l02Sine_2p a n _ k h0 h1 hn (by omega) c2 hk rfl p0 p1 r hr r0 (k + 1) (by omega) _ rfl st t2 w
    · by_cases c3 : n ≤ 270000
      · rw [sinI_q3 n (by omega) (by omega)]
        obtain ⟨k, hk, p0, p1, ⟨hr, he⟩ | ⟨r, hr, r0, st, t2, he⟩⟩ := key (n - 180000) (by omega) (by omega)
        · rw [he]; exact l02Sine_3z a n _ k h0 h1 hn (by omega) c3 hk rfl p0 p1 hr w
        · rw [he]; exact l02Sine_3p a n _ k h0 h1 hn (by omega) c3 hk rfl p0 p1 r hr r0 (k + 1) (by omega) _ rfl st t2 w
      · rw [sinI_q4 n (by omega) (by omega), show 360000 - n = 180000 - (n - 180000) by omega]
        obtain ⟨k, hk, p0, p1, ⟨hr, he⟩ | ⟨r, hr, r0, st, t2, he⟩⟩ := key (180000 - (n - 180000)) (by omega) (by omega)
        · rw [he]; exact l02Sine_4z a n _ k h0 h1 hn (by omega) n1 hk rfl p0 p1 hr w
        · rw [he]; exact l02Sine_4p a n _ k h0 h1 hn (by omega) n1 hk rfl p0 p1 r hr r0 (k + 1) (by omega) _ rfl st t2 w
end Go.Proofs.YtjghopepgfgebaaGreatDoor
