/-
  Months: the contracts of l03Leap, l03Year, l03Days, DaysIn (package spec), of isLeapYear, yearLength, monthLengths, isMonth, DaysIn (package impl; monthLengths reads the package variable).
-/
import Derived.Test.YtnadgldgdmppkaaDoorDayM
import Derived.Test.YtnadgldgdmppkaaDoorVec0
namespace Go.Proofs.YtnadgldgdmppkaaDoor
open Go.RowKit
set_option linter.unusedVariables false

/-- The package variable holds the lengths of the months. -/
def ComOK (w : World) : Prop := 0 < w.heap.size ∧ ∀ j, j < 12 → w.cell? ⟨0, j, none⟩ = some (.int .i64 (comT.getD j 0))
theorem ComOK.below {w w' : World} (h : ComOK w) (hb : Below w.heap.size w w') : ComOK w' :=
  ⟨by have := hb.size; have := h.1; omega, fun j hj => (hb.cell (p := ⟨0, j, none⟩) h.1).trans (h.2 j hj)⟩
theorem twelveN (m : Nat) (h : m < 12) : m = 0 ∨ m = 1 ∨ m = 2 ∨ m = 3 ∨ m = 4 ∨ m = 5 ∨ m = 6 ∨ m = 7 ∨ m = 8 ∨ m = 9 ∨ m = 10 ∨ m = 11 := by omega

set_option maxHeartbeats 400000 in
theorem l03Leap_any (y : Int) (h0 : 0 ≤ y) (h1 : y ≤ 100000) (w : World) :
    Calls Tryd.prog 89 #[.int .i64 y] w fun e w' => e = .returned (.bool (leapB y)) ∧ w = w' := by
  by_cases a : y % 4 = 0 <;> by_cases b : y % 100 = 0 <;> by_cases c : y % 400 = 0
  all_goals
    first
    | (exfalso; omega)
    | (have e1 : leapB y = true := by simp [leapB, a, b, c]
       rw [e1]
       go_enter Tryd.func89, Tryd.ntmps89
       go_wp2_with fail
       go_ret
       exact ⟨ret_bool (by first | rfl | simp [a, b, c]), rfl⟩)
    | (have e1 : leapB y = false := by simp [leapB, a, b, c]
       rw [e1]
       go_enter Tryd.func89, Tryd.ntmps89
       go_wp2_with fail
       go_ret
       exact ⟨ret_bool (by first | rfl | simp [a, b, c]), rfl⟩)
set_option maxHeartbeats 400000 in
theorem isLeap_any (y : Int) (h0 : 0 ≤ y) (h1 : y ≤ 100000) (w : World) :
    Calls Tryd.prog 90 #[.int .i64 y] w fun e w' => e = .returned (.bool (leapB y)) ∧ w = w' := by
  by_cases a : y % 4 = 0 <;> by_cases b : y % 100 = 0 <;> by_cases c : y % 400 = 0
  all_goals
    first
    | (exfalso; omega)
    | (have e1 : leapB y = true := by simp [leapB, a, b, c]
       rw [e1]
       go_enter Tryd.func90, Tryd.ntmps90
       go_wp2_with fail
       go_ret
       exact ⟨ret_bool (by first | rfl | simp [a, b, c]), rfl⟩)
    | (have e1 : leapB y = false := by simp [leapB, a, b, c]
       rw [e1]
       go_enter Tryd.func90, Tryd.ntmps90
       go_wp2_with fail
       go_ret
       exact ⟨ret_bool (by first | rfl | simp [a, b, c]), rfl⟩)
set_option maxHeartbeats 400000 in
theorem yearLen_any (y : Int) (h0 : 0 ≤ y) (h1 : y ≤ 100000) (w : World) :
    Calls Tryd.prog 91 #[.int .i64 y] w fun e w' => e = .returned (.int .i64 (ylen y)) ∧ w = w' := by
  unfold ylen
  have L := Lib.hid (fun w => isLeap_any y h0 h1 w)
  cases h : leapB y with
  | true =>
    rw [h] at L
    rw [if_pos rfl]
    clear h
    go_enter Tryd.func91, Tryd.ntmps91
    go_wp2_with fail
    refine (L.out _).mono ?_
    rintro e w' ⟨rfl, rfl⟩
    go_wp2_with fail
    go_ret
    exact ⟨rfl, rfl⟩
  | false =>
    rw [h] at L
    rw [if_neg (by simp)]
    clear h
    go_enter Tryd.func91, Tryd.ntmps91
    go_wp2_with fail
    refine (L.out _).mono ?_
    rintro e w' ⟨rfl, rfl⟩
    go_wp2_with fail
    go_ret
    exact ⟨rfl, rfl⟩
set_option maxHeartbeats 1000000 in
theorem l03Days_any (y : Int) (h0 : 0 ≤ y) (h1 : y ≤ 100000) (m : Nat) (hm : m < 12) (mm : Int) (hmm : mm = (m : Int) + 1) (w : World) :
    Calls Tryd.prog 51 #[.int .i64 y, .int .i64 mm] w fun e w' => e = .returned (.int .i64 (mlen y m)) ∧ w = w' := by
  by_cases h2 : m = 1
  · subst h2
    obtain rfl : mm = 2 := by omega
    have L := Lib.hid (fun w => l03Leap_any y h0 h1 w)
    cases h : leapB y with
    | true =>
      have e1 : mlen y 1 = 29 := by simp [mlen, comT, h]
      rw [e1]
      rw [h] at L
      clear h e1
      go_enter Tryd.func51, Tryd.ntmps51
      go_wp2_with fail
      refine (L.out _).mono ?_
      rintro e w' ⟨rfl, rfl⟩
      go_wp2_with fail
      go_ret
      exact ⟨rfl, rfl⟩
    | false =>
      have e1 : mlen y 1 = 28 := by simp [mlen, comT, h]
      rw [e1]
      rw [h] at L
      clear h e1
      go_enter Tryd.func51, Tryd.ntmps51
      go_wp2_with fail
      refine (L.out _).mono ?_
      rintro e w' ⟨rfl, rfl⟩
      go_wp2_with fail
      go_ret
      exact ⟨rfl, rfl⟩
  · have e1 : mlen y m = comT.getD m 0 := by unfold mlen; rw [if_neg (fun c => h2 c.1)]; omega
    rw [e1]
    clear e1
    rcases twelveN m hm with rfl | rfl | rfl | rfl | rfl | rfl | rfl | rfl | rfl | rfl | rfl | rfl
    all_goals
      first
      | (exact absurd rfl h2)
      | (subst hmm
         clear h2 hm
         go_enter Tryd.func51, Tryd.ntmps51
         go_wp2_with fail
         go_ret
         exact ⟨rfl, rfl⟩)

def monA (y : Int) : Array Value := if leapB y = true then #[.int .i64 31, .int .i64 29, .int .i64 31, .int .i64 30, .int .i64 31, .int .i64 30, .int .i64 31, .int .i64 31, .int .i64 30, .int .i64 31, .int .i64 30, .int .i64 31]
  else #[.int .i64 31, .int .i64 28, .int .i64 31, .int .i64 30, .int .i64 31, .int .i64 30, .int .i64 31, .int .i64 31, .int .i64 30, .int .i64 31, .int .i64 30, .int .i64 31]
theorem monA_size (y : Int) : (monA y).size = 12 := by unfold monA; split <;> rfl
theorem monA_at (y : Int) (k : Nat) (hk : k < 12) : (monA y).getD k undef = .int .i64 (mlen y k) := by
  unfold monA mlen
  cases h : leapB y <;> rcases twelveN k hk with rfl | rfl | rfl | rfl | rfl | rfl | rfl | rfl | rfl | rfl | rfl | rfl <;> simp [comT]

set_option maxRecDepth 100000 in
set_option maxHeartbeats 1000000 in
theorem monthLen_any (y : Int) (h0 : 0 ≤ y) (h1 : y ≤ 100000) (w : World) (hc : ComOK w) :
    Calls Tryd.prog 53 #[.int .i64 y] w fun e w' => e = .returned (.agg (monA y)) ∧ Below w.heap.size w w' := by
  unfold monA
  have L := Lib.hid (fun w => isLeap_any y h0 h1 w)
  have c0 : w.cell? ⟨0, 0, none⟩ = some (.int .i64 31) := hc.2 0 (by omega)
  have c1 : w.cell? ⟨0, 1, none⟩ = some (.int .i64 28) := hc.2 1 (by omega)
  have c2 : w.cell? ⟨0, 2, none⟩ = some (.int .i64 31) := hc.2 2 (by omega)
  have c3 : w.cell? ⟨0, 3, none⟩ = some (.int .i64 30) := hc.2 3 (by omega)
  have c4 : w.cell? ⟨0, 4, none⟩ = some (.int .i64 31) := hc.2 4 (by omega)
  have c5 : w.cell? ⟨0, 5, none⟩ = some (.int .i64 30) := hc.2 5 (by omega)
  have c6 : w.cell? ⟨0, 6, none⟩ = some (.int .i64 31) := hc.2 6 (by omega)
  have c7 : w.cell? ⟨0, 7, none⟩ = some (.int .i64 31) := hc.2 7 (by omega)
  have c8 : w.cell? ⟨0, 8, none⟩ = some (.int .i64 30) := hc.2 8 (by omega)
  have c9 : w.cell? ⟨0, 9, none⟩ = some (.int .i64 31) := hc.2 9 (by omega)
  have c10 : w.cell? ⟨0, 10, none⟩ = some (.int .i64 30) := hc.2 10 (by omega)
  have c11 : w.cell? ⟨0, 11, none⟩ = some (.int .i64 31) := hc.2 11 (by omega)
  have hg : ¬ w.heap.size = 0 := by have := hc.1; omega
  have hg1 : ¬ w.heap.size + 1 = 0 := by have := hc.1; omega
  have hg2 : 0 < w.heap.size := hc.1
  clear hc
  cases h : leapB y with
  | true =>
    rw [if_pos rfl]
    rw [h] at L
    clear h
    go_enter Tryd.func53, Tryd.ntmps53
    go_wp2_with fail
    refine (L.out _).mono ?_
    rintro e w1 ⟨rfl, rfl⟩
    clear c0 c1 c2 c3 c4 c5 c6 c7 c8 c9 c10 c11
    go_wp2_with fail
    refine bodyPost_ret (v := .agg #[.int .i64 31, .int .i64 29, .int .i64 31, .int .i64 30, .int .i64 31, .int .i64 30, .int .i64 31, .int .i64 31, .int .i64 30, .int .i64 31, .int .i64 30, .int .i64 31]) (by first | (simp [results, Tryd.results53, go_sem]; done) | (simp [results, Tryd.results53, go_sem, hg, hg1, hg2]; done)) rfl ⟨rfl, ?_⟩
    repeat (first | exact Below.refl _ _ | refine Below.setCell ?_ (by first | (simp; done) | omega | (simp; omega)) _ | refine Below.alloc ?_ (by first | (simp; done) | omega | (simp; omega)) _ | refine bel_drew ?_)
  | false =>
    rw [if_neg (by simp)]
    rw [h] at L
    clear h
    go_enter Tryd.func53, Tryd.ntmps53
    go_wp2_with fail
    refine (L.out _).mono ?_
    rintro e w1 ⟨rfl, rfl⟩
    clear c0 c1 c2 c3 c4 c5 c6 c7 c8 c9 c10 c11
    go_wp2_with fail
    refine bodyPost_ret (v := .agg #[.int .i64 31, .int .i64 28, .int .i64 31, .int .i64 30, .int .i64 31, .int .i64 30, .int .i64 31, .int .i64 31, .int .i64 30, .int .i64 31, .int .i64 30, .int .i64 31]) (by first | (simp [results, Tryd.results53, go_sem]; done) | (simp [results, Tryd.results53, go_sem, hg, hg1, hg2]; done)) rfl ⟨rfl, ?_⟩
    repeat (first | exact Below.refl _ _ | refine Below.setCell ?_ (by first | (simp; done) | omega | (simp; omega)) _ | refine Below.alloc ?_ (by first | (simp; done) | omega | (simp; omega)) _ | refine bel_drew ?_)

def daysV (y m : Int) : Value := if inR 2000 2273 [y] = true then (if inR 1 12 [m] = true then .tuple #[.int .i64 (mlen y (m - 1).toNat), .int .i64 0] else .tuple #[.int .i64 0, .int .i64 2]) else .tuple #[.int .i64 0, .int .i64 2]
theorem daysV_form (y m : Int) : ∃ a b : Int, daysV y m = .tuple #[.int .i64 a, .int .i64 b] := by
  unfold daysV
  split
  · split
    · exact ⟨_, _, rfl⟩
    · exact ⟨_, _, rfl⟩
  · exact ⟨_, _, rfl⟩
set_option maxHeartbeats 400000 in
theorem l03Year_any (y : Int) (w : World) :
    Calls Tryd.prog 49 #[.int .i64 y] w fun e w' => e = .returned (.bool (inR 2000 2273 [y])) ∧ w = w' := by
  go_enter Tryd.func49, Tryd.ntmps49
  go_wp2_with fail
  refine (l00In_any _ _ _ _).mono ?_
  rintro e w' ⟨rfl, rfl⟩
  go_wp2_with fail
  go_ret
  exact ⟨rfl, rfl⟩
set_option maxHeartbeats 400000 in
theorem isMonth_any (y m : Int) (w : World) :
    Calls Tryd.prog 52 #[.int .i64 y, .int .i64 m] w fun e w' => e = .returned (.bool (inR 2000 2273 [y] && inR 1 12 [m])) ∧ Below w.heap.size w w' := by
  cases h1 : inR 2000 2273 [y] with
  | false =>
    rw [Bool.false_and]
    have H1 := Lib.hid h1
    clear h1
    go_enter Tryd.func52, Tryd.ntmps52
    go_wp2_with fail
    refine (within1 _ _ y _ _ _ (by simp)).mono ?_
    rintro e w' ⟨rfl, rfl⟩
    rw [H1.out]
    go_wp2_with fail
    go_ret
    refine ⟨rfl, ?_⟩
    repeat (first | exact Below.refl _ _ | refine Below.setCell ?_ (by first | (simp; done) | omega | (simp; omega)) _ | refine Below.alloc ?_ (by first | (simp; done) | omega | (simp; omega)) _ | refine bel_drew ?_)
  | true =>
    rw [Bool.true_and]
    have H1 := Lib.hid h1
    clear h1
    go_enter Tryd.func52, Tryd.ntmps52
    go_wp2_with fail
    refine (within1 _ _ y _ _ _ (by simp)).mono ?_
    rintro e w' ⟨rfl, rfl⟩
    rw [H1.out]
    go_wp2_with fail
    refine (within1 _ _ m _ _ _ (by first | (simp; done) | (rw [World.cell?_alloc_at _ _ _ _ (by simp)]; rfl))).mono ?_
    rintro e w' ⟨rfl, rfl⟩
    go_wp2_with fail
    go_ret
    refine ⟨rfl, ?_⟩
    repeat (first | exact Below.refl _ _ | refine Below.setCell ?_ (by first | (simp; done) | omega | (simp; omega)) _ | refine Below.alloc ?_ (by first | (simp; done) | omega | (simp; omega)) _ | refine bel_drew ?_)
set_option maxRecDepth 100000 in
theorem idx12 (A : Array Value) (hA : A.size = 12) (k : Nat) (hk : k < 12) (w : World) : (Instr.index 63 (.agg A) (.int .i64 k)).run Tryd.prog w = .ok (A.getD k undef) w := by
  have hs : Tryd.prog.types[2].size = 1 := by kernel_rfl
  simp [Instr.index, run_underlying Tryd.underlying63, asIntOf, go_sem, hA, hk]

set_option maxRecDepth 100000 in
set_option maxHeartbeats 1000000 in
theorem specDays_any (y m : Int) (w : World) :
    Calls Tryd.prog 13 #[.int .i64 y, .int .i64 m] w fun e w' => e = .returned (daysV y m) ∧ Below w.heap.size w w' := by
  unfold daysV
  have Y := Lib.hid (fun w => l03Year_any y w)
  have M := Lib.hid (fun w => l00In_any m 1 12 w)
  cases h1 : inR 2000 2273 [y] with
  | false =>
    rw [if_neg (by simp)]
    rw [h1] at Y
    clear h1
    go_enter Tryd.func13, Tryd.ntmps13
    go_wp2_with fail
    refine (Y.out _).mono ?_
    rintro e w' ⟨rfl, rfl⟩
    go_wp2_with fail
    go_ret2
    exact ⟨rfl, Below.refl _ _⟩
  | true =>
    rw [if_pos rfl]
    obtain ⟨y0, y1⟩ := (inR_1 _ _ _).1 h1
    rw [h1] at Y
    clear h1
    cases h2 : inR 1 12 [m] with
    | false =>
      rw [if_neg (by simp)]
      rw [h2] at M
      clear h2
      go_enter Tryd.func13, Tryd.ntmps13
      go_wp2_with fail
      refine (Y.out _).mono ?_
      rintro e w' ⟨rfl, rfl⟩
      go_wp2_with fail
      refine (M.out _).mono ?_
      rintro e w' ⟨rfl, rfl⟩
      go_wp2_with fail
      go_ret2
      exact ⟨rfl, Below.refl _ _⟩
    | true =>
      rw [if_pos rfl]
      obtain ⟨m0, m1⟩ := (inR_1 _ _ _).1 h2
      rw [h2] at M
      clear h2
      have D := Lib.hid (fun w => l03Days_any y (by omega) (by omega) (m - 1).toNat (by omega) m (by omega) w)
      generalize mlen y (m - 1).toNat = z at *
      go_enter Tryd.func13, Tryd.ntmps13
      go_wp2_with fail
      refine (Y.out _).mono ?_
      rintro e w' ⟨rfl, rfl⟩
      go_wp2_with fail
      refine (M.out _).mono ?_
      rintro e w' ⟨rfl, rfl⟩
      go_wp2_with fail
      refine (D.out _).mono ?_
      rintro e w' ⟨rfl, rfl⟩
      go_wp2_with fail
      go_ret2
      exact ⟨rfl, Below.refl _ _⟩
set_option maxRecDepth 100000 in
set_option maxHeartbeats 1000000 in
theorem implDays_any (y m : Int) (w : World) (hc : ComOK w) :
    Calls Tryd.prog 14 #[.int .i64 y, .int .i64 m] w fun e w' => e = .returned (daysV y m) ∧ Below w.heap.size w w' := by
  unfold daysV
  have IM := Lib.hid (fun w => isMonth_any y m w)
  cases h1 : inR 2000 2273 [y] with
  | false =>
    rw [if_neg (by simp)]
    rw [h1, Bool.false_and] at IM
    clear h1 hc
    go_enter Tryd.func14, Tryd.ntmps14
    go_wp2_with fail
    refine (IM.out _).mono ?_
    rintro e w1 ⟨rfl, hb⟩
    have hsw1 := hb.size
    try simp at hsw1
    obtain ⟨hcw1, hfw1⟩ := bcell hb
    have HBw1 : Hid (Below w.heap.size w w1) := by
      apply Lib.hid
      refine Below.trans ?_ (hb.mono ?_)
      · repeat (first | exact Below.refl _ _ | refine Below.setCell ?_ (by first | (simp; done) | omega | (simp; omega)) _ | refine Below.alloc ?_ (by first | (simp; done) | omega | (simp; omega)) _)
      · first | (simp; done) | omega | (simp; omega)
    clear hb
    go_wp2_with fail
    go_ret2
    exact ⟨rfl, HBw1.out⟩
  | true =>
    rw [if_pos rfl]
    obtain ⟨y0, y1⟩ := (inR_1 _ _ _).1 h1
    rw [h1, Bool.true_and] at IM
    clear h1
    cases h2 : inR 1 12 [m] with
    | false =>
      rw [if_neg (by simp)]
      rw [h2] at IM
      clear h2 hc
      go_enter Tryd.func14, Tryd.ntmps14
      go_wp2_with fail
      refine (IM.out _).mono ?_
      rintro e w1 ⟨rfl, hb⟩
      have hsw1 := hb.size
      try simp at hsw1
      obtain ⟨hcw1, hfw1⟩ := bcell hb
      have HBw1 : Hid (Below w.heap.size w w1) := by
        apply Lib.hid
        refine Below.trans ?_ (hb.mono ?_)
        · repeat (first | exact Below.refl _ _ | refine Below.setCell ?_ (by first | (simp; done) | omega | (simp; omega)) _ | refine Below.alloc ?_ (by first | (simp; done) | omega | (simp; omega)) _)
        · first | (simp; done) | omega | (simp; omega)
      clear hb
      go_wp2_with fail
      go_ret2
      exact ⟨rfl, HBw1.out⟩
    | true =>
      rw [if_pos rfl]
      obtain ⟨m0, m1⟩ := (inR_1 _ _ _).1 h2
      rw [h2] at IM
      clear h2
      obtain ⟨k, hk⟩ : ∃ k : Nat, m - 1 = (k : Int) := Int.eq_ofNat_of_zero_le (by omega)
      have hk' : (m - 1).toNat = k := by omega
      rw [hk']
      clear hk'
      have ML := Lib.hid (fun w hc => monthLen_any y (by omega) (by omega) w hc)
      have hA := monA_size y
      have hget := monA_at y k (by omega)
      have E := Lib.hid hc
      clear hc
      generalize mlen y k = z at *
      generalize monA y = A at *
      have ix : ∀ w : World, (Instr.index 63 (.agg A) (.int .i64 k)).run Tryd.prog w = .ok (.int .i64 z) w := fun w => by rw [idx12 A hA k (by omega) w, hget]
      clear hA hget
      go_enter Tryd.func14, Tryd.ntmps14
      go_wp2_with fail
      refine (IM.out _).mono ?_
      rintro e w1 ⟨rfl, hb⟩
      have hsw1 := hb.size
      try simp at hsw1
      obtain ⟨hcw1, hfw1⟩ := bcell hb
      have HBw1 : Hid (Below w.heap.size w w1) := by
        apply Lib.hid
        refine Below.trans ?_ (hb.mono ?_)
        · repeat (first | exact Below.refl _ _ | refine Below.setCell ?_ (by first | (simp; done) | omega | (simp; omega)) _ | refine Below.alloc ?_ (by first | (simp; done) | omega | (simp; omega)) _)
        · first | (simp; done) | omega | (simp; omega)
      clear hb
      go_wp2_with fail
      refine (ML.out _ (E.out.below HBw1.out)).mono ?_
      rintro e w2 ⟨rfl, hb⟩
      have hsw2 := hb.size
      try simp at hsw2
      obtain ⟨hcw2, hfw2⟩ := bcell hb
      have HBw2 : Hid (Below w.heap.size w w2) := by
        apply Lib.hid
        refine Below.trans ?_ (hb.mono ?_)
        · repeat (first | exact Below.refl _ _ | exact HBw1.out | refine Below.setCell ?_ (by first | (simp; done) | omega | (simp; omega)) _ | refine Below.alloc ?_ (by first | (simp; done) | omega | (simp; omega)) _)
        · first | (simp; done) | omega | (simp; omega)
      clear hb
      first | (have gsw2w1 : w1.heap.size < w2.heap.size := by omega) | skip
      go_wp2_with fail
      go_ret2
      exact ⟨rfl, HBw2.out⟩
end Go.Proofs.YtnadgldgdmppkaaDoor
