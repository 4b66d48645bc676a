/-
  Domes: directions that are up, the code for a dome and a direction, and the area of a dome (packages impl and spec).
-/
import Derived.Test.YtcdmgkjaionjpaaDome0
import Derived.Test.YtcdmgkjaionjpaaQ2
import Derived.IntWalk
namespace Go.Proofs.Ytcdmgkjaionjpaa
open Go.RowKit
set_option linter.unusedVariables false

/-- A direction that is up. -/
def upB (a h : Int) : Bool := inR 0 359999 [a] && inR 0 90000 [h]
theorem upB_eq (a h : Int) : upB a h = (dirB a h && decide (0 ≤ h)) := by
  rw [Bool.eq_iff_iff]
  unfold upB dirB
  simp only [Bool.and_eq_true, inR_1, decide_eq_true_eq]
  constructor
  · rintro ⟨h1, h2⟩; exact ⟨⟨h1, by omega⟩, by omega⟩
  · rintro ⟨⟨h1, h2⟩, h3⟩; exact ⟨h1, by omega⟩
theorem upB_bd {a h : Int} (H : upB a h = true) : (0 ≤ a ∧ a ≤ 359999) ∧ 0 ≤ h ∧ h ≤ 90000 := by
  unfold upB at H
  simp only [Bool.and_eq_true, inR_1] at H
  exact H
/-- The code for a dome and a direction. -/
def ask9 (s : ByteArray) (a b u v : Int) : Int := if domeB s a b = true then (if upB u v = true then 0 else 2) else 1
theorem ask9_0 (s : ByteArray) (a b u v : Int) : ask9 s a b u v = 0 ↔ domeB s a b = true ∧ upB u v = true := by
  unfold ask9
  by_cases h1 : domeB s a b = true <;> by_cases h2 : upB u v = true <;> simp [h1, h2]
theorem domeB_bd {s : ByteArray} {a b : Int} (H : domeB s a b = true) : (1000 ≤ a ∧ a ≤ 30000) ∧ 0 ≤ b ∧ b ≤ 45000 := by
  unfold domeB at H
  simp only [Bool.and_eq_true, inR_1] at H
  exact H.2

/-- What DomeArea returns. -/
def areaV (s : ByteArray) (a b : Int) : Value := if domeB s a b = true then .tuple #[.int .i64 (nearQ (628318 * a * a) 100000), .int .i64 0] else .tuple #[.int .i64 0, .int .i64 1]
theorem areaV_form (s : ByteArray) (a b : Int) : ∃ x c : Int, areaV s a b = .tuple #[.int .i64 x, .int .i64 c] := by unfold areaV; split <;> exact ⟨_, _, rfl⟩
theorem area_bd (a : Int) (h0 : 1000 ≤ a) (h1 : a ≤ 30000) : (0 ≤ 628318 * a ∧ 628318 * a ≤ 20000000000) ∧ 0 ≤ 628318 * a * a ∧ 628318 * a * a ≤ 600000000000000 := by
  have h2 : 0 ≤ 628318 * a * a := Int.mul_nonneg (by omega) (by omega)
  have h3 : 628318 * a * a ≤ 628318 * a * 30000 := Int.mul_le_mul_of_nonneg_left h1 (by omega)
  omega

set_option maxHeartbeats 1000000 in
theorem implArea_any (s : ByteArray) (a b : Int) (hmax : s.size ≤ maxLen) (w : World) :
    Calls Try.prog 10 #[.agg #[.string s, .int .i64 a, .int .i64 b]] w fun e w' => e = .returned (areaV s a b) ∧ Below w.heap.size w w' := by
  unfold areaV
  have V := Lib.hid (fun w => validDome_any s a b hmax w)
  clear hmax
  cases hd : domeB s a b with
  | false =>
    rw [if_neg (by simp)]
    rw [hd] at V
    clear hd
    go_enter Try.func10, Try.ntmps10
    go_wp2_with fail
    refine (V.out _).mono ?_
    rintro e w1 ⟨rfl, hb⟩
    have hsw1 := hb.size
    try simp at hsw1
    obtain ⟨hcw1, hfw1⟩ := bcell hb
    have HBw1 : Hid (Below w.heap.size w w1) := by
      apply Lib.hid
      refine Below.trans ?_ (hb.mono ?_)
      · repeat (first | exact Below.refl _ _ | refine Below.setCell ?_ (by first | (simp; done) | omega | (simp; omega)) _ | refine Below.alloc ?_ (by first | (simp; done) | omega | (simp; omega)) _)
      · first | (simp; done) | omega | (simp; omega)
    have hzw1 : w.heap.size < w1.heap.size := by have := hb.size; (try simp at this); omega
    clear hb
    go_wp2_with fail
    refine bodyPost_ret (v := .tuple #[.int .i64 0, .int .i64 1]) (by first | (simp [results, Try.results10, go_sem]; done) | (simp [results, Try.results10, go_sem]; done)) rfl ⟨rfl, ?_⟩
    repeat (first | exact Below.refl _ _ | exact HBw1.out | refine Below.setCell ?_ (by first | (simp; done) | omega | (simp; omega)) _ | refine Below.alloc ?_ (by first | (simp; done) | omega | (simp; omega)) _ | refine bel_drew ?_)
  | true =>
    rw [if_pos rfl]
    rw [hd] at V
    have hbd := (domeB_bd hd).1
    obtain ⟨⟨m0, m1⟩, m2, m3⟩ := area_bd a hbd.1 hbd.2
    have N := Lib.hid (fun w => nearest_any (628318 * a * a) 100000 w (by omega) (by omega) (by omega) (by omega))
    have w1e : wrap64 (628318 * a) = 628318 * a := IntWalk.wrap64_in _ (by omega)
    have w2e : wrap64 (628318 * a * a) = 628318 * a * a := IntWalk.wrap64_in _ (by omega)
    clear hd
    generalize nearQ (628318 * a * a) 100000 = q at *
    go_enter Try.func10, Try.ntmps10
    go_wp2_with fail
    refine (V.out _).mono ?_
    rintro e w1 ⟨rfl, hb⟩
    have hsw1 := hb.size
    try simp at hsw1
    obtain ⟨hcw1, hfw1⟩ := bcell hb
    have HBw1 : Hid (Below w.heap.size w w1) := by
      apply Lib.hid
      refine Below.trans ?_ (hb.mono ?_)
      · repeat (first | exact Below.refl _ _ | refine Below.setCell ?_ (by first | (simp; done) | omega | (simp; omega)) _ | refine Below.alloc ?_ (by first | (simp; done) | omega | (simp; omega)) _)
      · first | (simp; done) | omega | (simp; omega)
    have hzw1 : w.heap.size < w1.heap.size := by have := hb.size; (try simp at this); omega
    clear hb
    go_wp2_with fail
    refine (N.out _).mono ?_
    rintro e w2 ⟨rfl, hb⟩
    have hsw2 := hb.size
    try simp at hsw2
    obtain ⟨hcw2, hfw2⟩ := bcell hb
    have HBw2 : Hid (Below w.heap.size w w2) := by
      apply Lib.hid
      refine Below.trans ?_ (hb.mono ?_)
      · repeat (first | exact Below.refl _ _ | exact HBw1.out | refine Below.setCell ?_ (by first | (simp; done) | omega | (simp; omega)) _ | refine Below.alloc ?_ (by first | (simp; done) | omega | (simp; omega)) _)
      · first | (simp; done) | omega | (simp; omega)
    have hzw2 : w.heap.size < w2.heap.size := by have := hb.size; (try simp at this); omega
    clear hb
    first | (have gsw2w1 : w1.heap.size < w2.heap.size := by omega) | skip
    go_wp2_with fail
    refine bodyPost_ret (v := .tuple #[.int .i64 q, .int .i64 0]) (by first | (simp [results, Try.results10, go_sem]; done) | (simp [results, Try.results10, go_sem]; done)) rfl ⟨rfl, ?_⟩
    repeat (first | exact Below.refl _ _ | exact HBw2.out | refine Below.setCell ?_ (by first | (simp; done) | omega | (simp; omega)) _ | refine Below.alloc ?_ (by first | (simp; done) | omega | (simp; omega)) _ | refine bel_drew ?_)
set_option maxHeartbeats 1000000 in
theorem specArea_any (s : ByteArray) (a b : Int) (w : World) :
    Calls Try.prog 9 #[.agg #[.string s, .int .i64 a, .int .i64 b]] w fun e w' => e = .returned (areaV s a b) ∧ Below w.heap.size w w' := by
  unfold areaV
  have V := Lib.hid (fun (w : World) g c0 c1 c2 => l09Ok_at g 0 s a b w c0 c1 c2)
  cases hd : domeB s a b with
  | false =>
    rw [if_neg (by simp)]
    rw [hd] at V
    clear hd
    go_enter Try.func9, Try.ntmps9
    go_wp2_with fail
    refine (V.out _ _ (by simp) (by simp) (by simp)).mono ?_
    rintro e w1 ⟨rfl, rfl⟩
    go_wp2_with fail
    refine bodyPost_ret (v := .tuple #[.int .i64 0, .int .i64 1]) (by first | (simp [results, Try.results9, go_sem]; done) | (simp [results, Try.results9, go_sem]; done)) rfl ⟨rfl, ?_⟩
    repeat (first | exact Below.refl _ _ | refine Below.setCell ?_ (by first | (simp; done) | omega | (simp; omega)) _ | refine Below.alloc ?_ (by first | (simp; done) | omega | (simp; omega)) _ | refine bel_drew ?_)
  | true =>
    rw [if_pos rfl]
    rw [hd] at V
    have hbd := (domeB_bd hd).1
    obtain ⟨⟨m0, m1⟩, m2, m3⟩ := area_bd a hbd.1 hbd.2
    have N := Lib.hid (fun w => l01Div_any (628318 * a * a) 100000 w (by omega) (by omega) (by omega) (by omega) (by omega))
    have w1e : wrap64 (628318 * a) = 628318 * a := IntWalk.wrap64_in _ (by omega)
    have w2e : wrap64 (628318 * a * a) = 628318 * a * a := IntWalk.wrap64_in _ (by omega)
    clear hd
    generalize nearQ (628318 * a * a) 100000 = q at *
    go_enter Try.func9, Try.ntmps9
    go_wp2_with fail
    refine (V.out _ _ (by simp) (by simp) (by simp)).mono ?_
    rintro e w1 ⟨rfl, rfl⟩
    go_wp2_with fail
    refine (N.out _).mono ?_
    rintro e w' ⟨rfl, rfl⟩
    go_wp2_with fail
    refine bodyPost_ret (v := .tuple #[.int .i64 q, .int .i64 0]) (by first | (simp [results, Try.results9, go_sem]; done) | (simp [results, Try.results9, go_sem]; done)) rfl ⟨rfl, ?_⟩
    repeat (first | exact Below.refl _ _ | refine Below.setCell ?_ (by first | (simp; done) | omega | (simp; omega)) _ | refine Below.alloc ?_ (by first | (simp; done) | omega | (simp; omega)) _ | refine bel_drew ?_)
end Go.Proofs.Ytcdmgkjaionjpaa
