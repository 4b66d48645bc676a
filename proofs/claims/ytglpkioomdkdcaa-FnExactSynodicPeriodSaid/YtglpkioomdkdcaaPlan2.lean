/-
  The time between two meetings of planets: the contracts of SynodicPeriod (packages impl and spec).
-/
import Derived.Test.YtglpkioomdkdcaaPlan1
import Derived.Test.YtglpkioomdkdcaaAbs
import Derived.Test.YtglpkioomdkdcaaQ2
namespace Go.Proofs.Ytglpkioomdkdcaa
open Go.RowKit
set_option linter.unusedVariables false

def synV (s : ByteArray) (a b c : Int) (t : ByteArray) (x y z : Int) : Value := if planetB s a b c = true ∧ planetB t x y z = true then (if a = x then .tuple #[.int .i64 0, .int .i64 6] else .tuple #[.int .i64 (nearQ (a * x) (ab (a - x))), .int .i64 0]) else .tuple #[.int .i64 0, .int .i64 1]
theorem synV_form (s : ByteArray) (a b c : Int) (t : ByteArray) (x y z : Int) : ∃ p q : Int, synV s a b c t x y z = .tuple #[.int .i64 p, .int .i64 q] := by
  unfold synV
  split
  · split <;> exact ⟨_, _, rfl⟩
  · exact ⟨_, _, rfl⟩
theorem per_bd (a x : Int) (a0 : 1000 ≤ a) (a1 : a ≤ 100000000) (x0 : 1000 ≤ x) (x1 : x ≤ 100000000) : 0 ≤ a * x ∧ a * x ≤ 10000000000000000 := by
  refine ⟨Int.mul_nonneg (by omega) (by omega), ?_⟩
  have h1 : a * x ≤ 100000000 * x := Int.mul_le_mul_of_nonneg_right a1 (by omega)
  omega
theorem ab_0 (a x : Int) (h : ¬ a = x) : 1 ≤ ab (a - x) := by unfold ab; split <;> omega
theorem ab_le (a x m : Int) (h : a - x ≤ m) (h' : -m ≤ a - x) : ab (a - x) ≤ m := by unfold ab; split <;> omega
theorem keepP2 {W0 W W' : World} {b0 o0 b1 o1 : Nat} {v0 v1 : Value} (h : W.cell? ⟨b0, o0, none⟩ = some v0 ∧ W.cell? ⟨b1, o1, none⟩ = some v1 ∧ Below W0.heap.size W0 W) (hb : Below W.heap.size W W') :
    W'.cell? ⟨b0, o0, none⟩ = some v0 ∧ W'.cell? ⟨b1, o1, none⟩ = some v1 ∧ Below W0.heap.size W0 W' := by
  obtain ⟨h0, h1, h4⟩ := h
  have l0 := World.block_lt_of_cell? W ⟨b0, o0, none⟩ h0
  have l1 := World.block_lt_of_cell? W ⟨b1, o1, none⟩ h1
  obtain ⟨k, _⟩ := bcell hb
  exact ⟨(k _ _ l0).trans h0, (k _ _ l1).trans h1, h4.trans (hb.mono h4.size)⟩
set_option maxHeartbeats 2000000 in
theorem implSyn_any (s : ByteArray) (a b c : Int) (t : ByteArray) (x y z : Int) (hmax : s.size ≤ maxLen) (tmax : t.size ≤ maxLen) (w : World) :
    Calls Try.prog 20 #[.agg #[.string s, .int .i64 a, .int .i64 b, .int .i64 c], .agg #[.string t, .int .i64 x, .int .i64 y, .int .i64 z]] w fun e w' => e = .returned (synV s a b c t x y z) ∧ Below w.heap.size w w' := by
  unfold synV
  have I := Lib.hid (fun w => validPlanet_any s a b c hmax w)
  have J := Lib.hid (fun w => validPlanet_any t x y z tmax w)
  cases hp : planetB s a b c with
  | false =>
    rw [if_neg (by simp)]
    rw [hp] at I
    clear hp
    go_enter Try.func20, Try.ntmps20
    go_wp2_with fail
    refine (I.out _).mono ?_
    rintro e w1 ⟨rfl, hb⟩
    have hsw1 := hb.size
    try simp at hsw1
    obtain ⟨hcw1, hfw1⟩ := bcell hb
    have HBw1 : Hid (Below w.heap.size w w1) := by
      apply Lib.hid
      refine Below.trans ?_ (hb.mono ?_)
      · repeat (first | exact Below.refl _ _ | refine Below.setCell ?_ (by first | (simp; done) | omega | (simp; omega)) _ | refine Below.alloc ?_ (by first | (simp; done) | omega | (simp; omega)) _)
      · first | (simp; done) | omega | (simp; omega)
    have hzw1 : w.heap.size + 1 < w1.heap.size := by have := hb.size; (try simp at this); omega
    have hyw1 : w.heap.size < w1.heap.size := by have := hb.size; (try simp at this); omega
    clear hb
    go_wp2_with fail
    refine bodyPost_ret (v := .tuple #[.int .i64 0, .int .i64 1]) (by first | (simp [results, Try.results20, go_sem]; done) | (simp [results, Try.results20, go_sem, *]; done)) rfl ⟨rfl, ?_⟩
    repeat (first | exact Below.refl _ _ | exact HBw1.out | refine Below.setCell ?_ (by first | (simp; done) | omega | (simp; omega)) _ | refine Below.alloc ?_ (by first | (simp; done) | omega | (simp; omega)) _ | refine bel_drew ?_)
  | true =>
    rw [hp] at I
    cases hq : planetB t x y z with
    | false =>
      rw [if_neg (by simp)]
      rw [hq] at J
      clear hp hq
      go_enter Try.func20, Try.ntmps20
      go_wp2_with fail
      refine (I.out _).mono ?_
      rintro e w1 ⟨rfl, hb⟩
      have hsw1 := hb.size
      try simp at hsw1
      obtain ⟨hcw1, hfw1⟩ := bcell hb
      have HBw1 : Hid (Below w.heap.size w w1) := by
        apply Lib.hid
        refine Below.trans ?_ (hb.mono ?_)
        · repeat (first | exact Below.refl _ _ | refine Below.setCell ?_ (by first | (simp; done) | omega | (simp; omega)) _ | refine Below.alloc ?_ (by first | (simp; done) | omega | (simp; omega)) _)
        · first | (simp; done) | omega | (simp; omega)
      have hzw1 : w.heap.size + 1 < w1.heap.size := by have := hb.size; (try simp at this); omega
      have hyw1 : w.heap.size < w1.heap.size := by have := hb.size; (try simp at this); omega
      clear hb
      go_wp2_with fail
      refine (J.out _).mono ?_
      rintro e w2 ⟨rfl, hb⟩
      have hsw2 := hb.size
      try simp at hsw2
      obtain ⟨hcw2, hfw2⟩ := bcell hb
      have HBw2 : Hid (Below w.heap.size w w2) := by
        apply Lib.hid
        refine Below.trans ?_ (hb.mono ?_)
        · repeat (first | exact Below.refl _ _ | exact HBw1.out | refine Below.setCell ?_ (by first | (simp; done) | omega | (simp; omega)) _ | refine Below.alloc ?_ (by first | (simp; done) | omega | (simp; omega)) _)
        · first | (simp; done) | omega | (simp; omega)
      have hzw2 : w.heap.size + 1 < w2.heap.size := by have := hb.size; (try simp at this); omega
      have hyw2 : w.heap.size < w2.heap.size := by have := hb.size; (try simp at this); omega
      clear hb
      first | (have gsw2w1 : w1.heap.size < w2.heap.size := by omega) | skip
      go_wp2_with fail
      refine bodyPost_ret (v := .tuple #[.int .i64 0, .int .i64 1]) (by first | (simp [results, Try.results20, go_sem]; done) | (simp [results, Try.results20, go_sem, *]; done)) rfl ⟨rfl, ?_⟩
      repeat (first | exact Below.refl _ _ | exact HBw2.out | refine Below.setCell ?_ (by first | (simp; done) | omega | (simp; omega)) _ | refine Below.alloc ?_ (by first | (simp; done) | omega | (simp; omega)) _ | refine bel_drew ?_)
    | true =>
      rw [if_pos ⟨rfl, rfl⟩]
      rw [hq] at J
      obtain ⟨⟨a0, a1⟩, _, _⟩ := planet_bd s a b c hp
      obtain ⟨⟨x0, x1⟩, _, _⟩ := planet_bd t x y z hq
      clear hp hq
      by_cases e : a = x
      · rw [if_pos e]
        subst e
        go_enter Try.func20, Try.ntmps20
        go_wp2_with fail
        refine (I.out _).mono ?_
        rintro e w1 ⟨rfl, hb⟩
        have hsw1 := hb.size
        try simp at hsw1
        obtain ⟨hcw1, hfw1⟩ := bcell hb
        have HBw1 : Hid (Below w.heap.size w w1) := by
          apply Lib.hid
          refine Below.trans ?_ (hb.mono ?_)
          · repeat (first | exact Below.refl _ _ | refine Below.setCell ?_ (by first | (simp; done) | omega | (simp; omega)) _ | refine Below.alloc ?_ (by first | (simp; done) | omega | (simp; omega)) _)
          · first | (simp; done) | omega | (simp; omega)
        have hzw1 : w.heap.size + 1 < w1.heap.size := by have := hb.size; (try simp at this); omega
        have hyw1 : w.heap.size < w1.heap.size := by have := hb.size; (try simp at this); omega
        clear hb
        go_wp2_with fail
        refine (J.out _).mono ?_
        rintro e w2 ⟨rfl, hb⟩
        have hsw2 := hb.size
        try simp at hsw2
        obtain ⟨hcw2, hfw2⟩ := bcell hb
        have HBw2 : Hid (Below w.heap.size w w2) := by
          apply Lib.hid
          refine Below.trans ?_ (hb.mono ?_)
          · repeat (first | exact Below.refl _ _ | exact HBw1.out | refine Below.setCell ?_ (by first | (simp; done) | omega | (simp; omega)) _ | refine Below.alloc ?_ (by first | (simp; done) | omega | (simp; omega)) _)
          · first | (simp; done) | omega | (simp; omega)
        have hzw2 : w.heap.size + 1 < w2.heap.size := by have := hb.size; (try simp at this); omega
        have hyw2 : w.heap.size < w2.heap.size := by have := hb.size; (try simp at this); omega
        clear hb
        first | (have gsw2w1 : w1.heap.size < w2.heap.size := by omega) | skip
        go_wp2_with fail
        refine bodyPost_ret (v := .tuple #[.int .i64 0, .int .i64 6]) (by first | (simp [results, Try.results20, go_sem]; done) | (simp [results, Try.results20, go_sem, *]; done)) rfl ⟨rfl, ?_⟩
        repeat (first | exact Below.refl _ _ | exact HBw2.out | refine Below.setCell ?_ (by first | (simp; done) | omega | (simp; omega)) _ | refine Below.alloc ?_ (by first | (simp; done) | omega | (simp; omega)) _ | refine bel_drew ?_)
      · rw [if_neg e]
        have e' : (a == x) = false := by simpa using e
        obtain ⟨p0, p1⟩ := per_bd a x a0 a1 x0 x1
        have q0 := ab_0 a x e
        have q1 := ab_le a x 100000000 (by omega) (by omega)
        have AB := Lib.hid (fun w => absDiff_any a x w (by omega) (by omega) (by omega) (by omega))
        have NQ := Lib.hid (fun w => nearest_any (a * x) (ab (a - x)) w (by omega) (by omega) (by omega) (by omega))
        have m1 : IntKind.i64.wrap (a * x) = a * x := IntWalk.i64_in _ (by omega)
        generalize ab (a - x) = k at *
        generalize nearQ (a * x) k = r at *
        clear e
        obtain ⟨W0, hW0⟩ : ∃ W0, W0 = (w.alloc (.cells #[.string s, .int .i64 a, .int .i64 b, .int .i64 c] 26)).alloc (.cells #[.string t, .int .i64 x, .int .i64 y, .int .i64 z] 26) := ⟨_, rfl⟩
        have HB0 : Hid (Below w.heap.size w W0) := Lib.hid (by rw [hW0]; exact ((Below.refl _ _).alloc (Nat.le_refl _) _).alloc (by simp) _)
        have K0 : Hid (W0.cell? ⟨w.heap.size, 1, none⟩ = some (.int .i64 a) ∧ W0.cell? ⟨w.heap.size + 1, 1, none⟩ = some (.int .i64 x) ∧ Below W0.heap.size W0 W0) := Lib.hid (by rw [hW0]; exact ⟨by simp, by simp, Below.refl _ _⟩)
        have z0 : ∀ i, W0.cell? ⟨w.heap.size, i, none⟩ = (#[.string s, .int .i64 a, .int .i64 b, .int .i64 c] : Array Value)[i]? := by intro i; rw [hW0]; simp
        have z1 : ∀ i, W0.cell? ⟨w.heap.size + 1, i, none⟩ = (#[.string t, .int .i64 x, .int .i64 y, .int .i64 z] : Array Value)[i]? := by intro i; rw [hW0]; simp
        have z00 := z0 0
        have z01 := z0 1
        have z02 := z0 2
        have z03 := z0 3
        have z10 := z1 0
        have z11 := z1 1
        have z12 := z1 2
        have z13 := z1 3
        simp at z00 z01 z02 z03 z10 z11 z12 z13
        have HW := Lib.hid hW0
        have lt0 := World.block_lt_of_cell? W0 ⟨w.heap.size, 0, none⟩ z00
        have lt1 := World.block_lt_of_cell? W0 ⟨w.heap.size + 1, 0, none⟩ z10
        clear hW0 z0 z1
        go_enter Try.func20, Try.ntmps20
        go_wp2_with fail
        rw [← HW.out]
        clear HW
        refine (I.out _).mono ?_
        rintro e w1 ⟨rfl, hb⟩
        have K1 := Lib.hid (keepP2 K0.out hb)
        obtain ⟨hc, _⟩ := bcell hb
        have y10 := (hc _ _ lt1).trans z10
        have y11 := (hc _ _ lt1).trans z11
        have y12 := (hc _ _ lt1).trans z12
        have y13 := (hc _ _ lt1).trans z13
        clear hb hc K0 z00 z01 z02 z03 z10 z11 z12 z13
        go_wp2_with fail
        refine (J.out _).mono ?_
        rintro e w2 ⟨rfl, hb⟩
        have K2 := Lib.hid (keepP2 K1.out hb)
        clear hb K1 y10 y11 y12 y13
        obtain ⟨k0, k1, k2⟩ := K2.out
        go_wp2_with fail
        go_region_held3 (fun w' => w'.cell? ⟨w.heap.size, 1, none⟩ = some (.int .i64 a) ∧ w'.cell? ⟨w.heap.size + 1, 1, none⟩ = some (.int .i64 x) ∧ Below W0.heap.size W0 w') (first | (exact keepP2 K2.out (bel_drew (Below.refl _ _))) | (exact keepP2 K2.out y2) | (exact keepP2 K2.out y1) | go_keep) ((first
          | (go_at_call 35; refine (AB.out _).mono ?_; rintro e x1 ⟨rfl, rfl⟩; have y1 := bel_drew (Below.refl w2.heap.size w2))
          | (go_at_call 34; refine (NQ.out _).mono ?_; rintro e x2 ⟨rfl, hx2⟩; have y2 := undrewP hx2)))
        rename_i held
        have HB := Lib.hid (HB0.out.trans (held.2.2.mono HB0.out.size))
        clear held k0 k1 k2
        go_wp2_with fail
        refine bodyPost_ret (v := .tuple #[.int .i64 r, .int .i64 0]) (by first | (simp [results, Try.results20, go_sem]; done) | (simp [results, Try.results20, go_sem, *]; done)) rfl ⟨rfl, ?_⟩
        repeat (first | exact Below.refl _ _ | exact HB.out | refine Below.setCell ?_ (by first | (simp; done) | omega | (simp; omega)) _ | refine Below.alloc ?_ (by first | (simp; done) | omega | (simp; omega)) _ | refine bel_drew ?_)
set_option maxHeartbeats 2000000 in
theorem specSyn_any (s : ByteArray) (a b c : Int) (t : ByteArray) (x y z : Int) (w : World) :
    Calls Try.prog 19 #[.agg #[.string s, .int .i64 a, .int .i64 b, .int .i64 c], .agg #[.string t, .int .i64 x, .int .i64 y, .int .i64 z]] w fun e w' => e = .returned (synV s a b c t x y z) ∧ Below w.heap.size w w' := by
  unfold synV
  have I := Lib.hid (fun (w : World) g h0 h1 h2 h3 => l07One_at g 0 s a b c w h0 h1 h2 h3)
  have J := Lib.hid (fun (w : World) g h0 h1 h2 h3 => l07One_at g 0 t x y z w h0 h1 h2 h3)
  cases hp : planetB s a b c with
  | false =>
    rw [if_neg (by simp)]
    rw [hp] at I
    clear hp
    go_enter Try.func19, Try.ntmps19
    go_wp2_with fail
    refine (I.out _ _ (by simp) (by simp) (by simp) (by simp)).mono ?_
    rintro e w1 ⟨rfl, rfl⟩
    go_wp2_with fail
    refine bodyPost_ret (v := .tuple #[.int .i64 0, .int .i64 1]) (by first | (simp [results, Try.results19, go_sem]; done) | (simp [results, Try.results19, go_sem, *]; done)) rfl ⟨rfl, ?_⟩
    repeat (first | exact Below.refl _ _ | refine Below.setCell ?_ (by first | (simp; done) | omega | (simp; omega)) _ | refine Below.alloc ?_ (by first | (simp; done) | omega | (simp; omega)) _ | refine bel_drew ?_)
  | true =>
    rw [hp] at I
    cases hq : planetB t x y z with
    | false =>
      rw [if_neg (by simp)]
      rw [hq] at J
      clear hp hq
      go_enter Try.func19, Try.ntmps19
      go_wp2_with fail
      refine (I.out _ _ (by simp) (by simp) (by simp) (by simp)).mono ?_
      rintro e w1 ⟨rfl, rfl⟩
      go_wp2_with fail
      refine (J.out _ _ (by simp) (by simp) (by simp) (by simp)).mono ?_
      rintro e w1 ⟨rfl, rfl⟩
      go_wp2_with fail
      refine bodyPost_ret (v := .tuple #[.int .i64 0, .int .i64 1]) (by first | (simp [results, Try.results19, go_sem]; done) | (simp [results, Try.results19, go_sem, *]; done)) rfl ⟨rfl, ?_⟩
      repeat (first | exact Below.refl _ _ | refine Below.setCell ?_ (by first | (simp; done) | omega | (simp; omega)) _ | refine Below.alloc ?_ (by first | (simp; done) | omega | (simp; omega)) _ | refine bel_drew ?_)
    | true =>
      rw [if_pos ⟨rfl, rfl⟩]
      rw [hq] at J
      obtain ⟨⟨a0, a1⟩, _, _⟩ := planet_bd s a b c hp
      obtain ⟨⟨x0, x1⟩, _, _⟩ := planet_bd t x y z hq
      clear hp hq
      by_cases e : a = x
      · rw [if_pos e]
        subst e
        have AB := Lib.hid (fun w => l02Abs_any 0 (by omega) (by omega) w)
        have k0 : ab 0 = 0 := rfl
        rw [k0] at AB
        go_enter Try.func19, Try.ntmps19
        go_wp2_with fail
        refine (I.out _ _ (by simp) (by simp) (by simp) (by simp)).mono ?_
        rintro e w1 ⟨rfl, rfl⟩
        go_wp2_with fail
        refine (J.out _ _ (by simp) (by simp) (by simp) (by simp)).mono ?_
        rintro e w1 ⟨rfl, rfl⟩
        go_wp2_with fail
        refine (AB.out _).mono ?_
        rintro e w' ⟨rfl, rfl⟩
        go_wp2_with fail
        refine bodyPost_ret (v := .tuple #[.int .i64 0, .int .i64 6]) (by first | (simp [results, Try.results19, go_sem]; done) | (simp [results, Try.results19, go_sem, *]; done)) rfl ⟨rfl, ?_⟩
        repeat (first | exact Below.refl _ _ | refine Below.setCell ?_ (by first | (simp; done) | omega | (simp; omega)) _ | refine Below.alloc ?_ (by first | (simp; done) | omega | (simp; omega)) _ | refine bel_drew ?_)
      · rw [if_neg e]
        obtain ⟨p0, p1⟩ := per_bd a x a0 a1 x0 x1
        have q0 := ab_0 a x e
        have q1 := ab_le a x 100000000 (by omega) (by omega)
        have AB := Lib.hid (fun w => l02Abs_any (a - x) (by omega) (by omega) w)
        have NQ := Lib.hid (fun w => l01Div_any (a * x) (ab (a - x)) w (by omega) (by omega) (by omega) (by omega) (by omega))
        have m1 : wrap64 (a * x) = a * x := IntWalk.wrap64_in _ (by omega)
        have M1 := Lib.hid m1
        generalize ab (a - x) = k at *
        generalize nearQ (a * x) k = r at *
        have hk : (k == 0) = false := by simp; omega
        clear e m1
        go_enter Try.func19, Try.ntmps19
        go_wp2_with fail
        refine (I.out _ _ (by simp) (by simp) (by simp) (by simp)).mono ?_
        rintro e w1 ⟨rfl, rfl⟩
        go_wp2_with fail
        refine (J.out _ _ (by simp) (by simp) (by simp) (by simp)).mono ?_
        rintro e w1 ⟨rfl, rfl⟩
        go_wp2_with fail
        refine (AB.out _).mono ?_
        rintro e w' ⟨rfl, rfl⟩
        go_wp2_with fail
        try rw [M1.out]
        refine (NQ.out _).mono ?_
        rintro e w' ⟨rfl, rfl⟩
        go_wp2_with fail
        refine bodyPost_ret (v := .tuple #[.int .i64 r, .int .i64 0]) (by first | (simp [results, Try.results19, go_sem]; done) | (simp [results, Try.results19, go_sem, *]; done)) rfl ⟨rfl, ?_⟩
        repeat (first | exact Below.refl _ _ | refine Below.setCell ?_ (by first | (simp; done) | omega | (simp; omega)) _ | refine Below.alloc ?_ (by first | (simp; done) | omega | (simp; omega)) _ | refine bel_drew ?_)
end Go.Proofs.Ytglpkioomdkdcaa
