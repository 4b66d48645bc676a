/-
  The day of a date: the contracts of date.day, DayOf (package impl) and of l03Find, DayOf (package spec).
-/
import Derived.Test.YtnadgldgdmppkaaDoorDateI
import Derived.Laws.StructEq
namespace Go.Proofs.YtnadgldgdmppkaaDoor
open Go.RowKit
set_option linter.unusedVariables false

/-- The number of a date's day, whether there is such a date or not. -/
def dayN (k m : Nat) (r : Int) : Int := r - 1 + yb k + mb (2000 + (k : Int)) m
def dayV (y m r : Int) : Value :=
  if inR 2000 2273 [y] = true then (if inR 1 12 [m] = true then (if inR 1 (mlen y (m - 1).toNat) [r] = true then
    (if inR 0 99999 [dayN (y - 2000).toNat (m - 1).toNat r] = true then .tuple #[.int .i64 (dayN (y - 2000).toNat (m - 1).toNat r), .int .i64 0] else .tuple #[.int .i64 0, .int .i64 2])
    else .tuple #[.int .i64 0, .int .i64 2]) else .tuple #[.int .i64 0, .int .i64 2]) else .tuple #[.int .i64 0, .int .i64 2]
theorem dayV_form (y m r : Int) : ∃ a b : Int, dayV y m r = .tuple #[.int .i64 a, .int .i64 b] := by
  unfold dayV
  repeat' split
  all_goals exact ⟨_, _, rfl⟩
theorem yb_up (k : Nat) (h : k ≤ 274) : 0 ≤ yb k ∧ yb k ≤ 100284 := by
  have h1 := yb_nonneg k
  have h2 := yb_bd k
  omega
theorem mb_up (y : Int) (m : Nat) (h : m ≤ 12) : 0 ≤ mb y m ∧ mb y m ≤ 366 := by
  have h1 := mb_nonneg y m h
  have h2 := mb_le y m 12 h (Nat.le_refl _)
  have h3 := mb_12 y
  have h4 := ylen_bd y
  omega

set_option maxRecDepth 100000 in
set_option maxHeartbeats 1000000 in
theorem l03Find_ok (k m : Nat) (r : Int) (hk : k < 274) (hm : m < 12) (hr : inR 1 (mlen (2000 + (k : Int)) m) [r] = true) (y mm : Int) (hy : y = 2000 + (k : Int)) (hmm : mm = (m : Int) + 1) (w : World) :
    Calls Tryd.prog 58 #[.int .i64 y, .int .i64 mm, .int .i64 r] w fun e w' => e = .returned (.tuple #[.int .i64 (dayN k m r), .bool (inR 0 99999 [dayN k m r])]) ∧ w = w' := by
  obtain ⟨r0, r1⟩ := (inR_1 _ _ _).1 hr
  have hml := mlen_bd (2000 + (k : Int)) m hm
  have YB := Lib.hid (fun i (hi : i ≤ k) => yb_up i (by omega))
  have MB := Lib.hid (fun i (hi : i ≤ m) => mb_up (2000 + (k : Int)) i (by omega))
  have Y := Lib.hid (fun w => l03Year_any y w)
  have hyin : inR 2000 2273 [y] = true := (inR_1 _ _ _).2 (by omega)
  have hmin : inR 1 12 [mm] = true := (inR_1 _ _ _).2 (by omega)
  rw [hyin] at Y
  have M := Lib.hid (fun w => l00In_any mm 1 12 w)
  rw [hmin] at M
  have D := Lib.hid (fun w => l03Days_any y (by omega) (by omega) m hm mm hmm w)
  have DI := Lib.hid (fun w => l00In_any r 1 (mlen y m) w)
  rw [hy] at DI
  rw [hr] at DI
  rw [← hy] at DI
  have LD := Lib.hid (fun w => l03DayD_any (dayN k m r) w)
  have hdn : dayN k m r = r - 1 + yb k + mb (2000 + (k : Int)) m := rfl
  have HDN := Lib.hid hdn
  have HY := Lib.hid hy
  have HM := Lib.hid hmm
  clear hdn hyin hmin hr hy hmm
  generalize hres : inR 0 99999 [dayN k m r] = q at *
  clear hres
  generalize hzz : mlen y m = z0 at *
  clear hzz
  go_enter Tryd.func58, Tryd.ntmps58
  go_wp2_with fail
  refine (Y.out _).mono ?_
  rintro e w' ⟨rfl, rfl⟩
  go_wp2_with fail
  refine (M.out _).mono ?_
  rintro e w' ⟨rfl, rfl⟩
  go_wp2_with fail
  refine (D.out _).mono ?_
  rintro e w' ⟨rfl, rfl⟩
  go_wp2_with fail
  refine (DI.out _).mono ?_
  rintro e w' ⟨rfl, rfl⟩
  go_wp2_with fail
  go_loopg [8, 9] 300 (fun kx s8 s9 wr => ∃ i : Nat, s8 = .int .i64 (r - 1 + yb i) ∧ s9 = .int .i64 (2000 + (i : Int)) ∧ i ≤ k ∧ kx = 300 - i ∧ w = wr)
  case atStart => exact ⟨0, by simp [yb], by simp, by omega, by omega, rfl⟩
  case round =>
    obtain ⟨i, rfl, rfl, hi, rfl, rfl⟩ := hrel
    have hyb := YB.out i hi
    have hyb2 := YB.out
    by_cases c : i < k
    · have hlt : 2000 + (i : Int) < y := by have := HY.out; omega
      have L := Lib.hid (fun w => l03Leap_any (2000 + (i : Int)) (by omega) (by omega) w)
      have e3 : yb (i + 1) = yb i + ylen (2000 + (i : Int)) := rfl
      have HE := Lib.hid e3
      clear e3 hyb2
      generalize yb i = b at *
      cases hl : leapB (2000 + (i : Int)) with
      | true =>
        have hy6 : ylen (2000 + (i : Int)) = 366 := by unfold ylen; rw [hl]; rfl
        rw [hl] at L
        rw [hy6] at HE
        clear hl hy6
        go_wp2_with fail
        refine (L.out _).mono ?_
        rintro e w' ⟨rfl, rfl⟩
        go_wp2_with fail
        go_roundg (300 - (i + 1))
        case measure => omega
        case rel => exact ⟨i + 1, congrArg (Value.int .i64) (by have := HE.out; omega), congrArg (Value.int .i64) (by omega), by omega, by omega, rfl⟩
      | false =>
        have hy5 : ylen (2000 + (i : Int)) = 365 := by unfold ylen; rw [hl]; rfl
        rw [hl] at L
        rw [hy5] at HE
        clear hl hy5
        go_wp2_with fail
        refine (L.out _).mono ?_
        rintro e w' ⟨rfl, rfl⟩
        go_wp2_with fail
        go_roundg (300 - (i + 1))
        case measure => omega
        case rel => exact ⟨i + 1, congrArg (Value.int .i64) (by have := HE.out; omega), congrArg (Value.int .i64) (by omega), by omega, by omega, rfl⟩
    · obtain rfl : i = k := by omega
      have hlt : ¬ 2000 + (i : Int) < y := by have := HY.out; omega
      clear hyb2
      generalize yb i = b at *
      go_wp2_with fail
      go_loopg [8, 10] 20 (fun kx s8 s10 wr => ∃ j : Nat, s8 = .int .i64 (r - 1 + b + mb (2000 + (i : Int)) j) ∧ s10 = .int .i64 ((j : Int) + 1) ∧ j ≤ m ∧ kx = 20 - j ∧ w = wr)
      case atStart => exact ⟨0, by simp [mb], by simp, by omega, by omega, rfl⟩
      case round =>
        obtain ⟨j, rfl, rfl, hj, rfl, rfl⟩ := hrel
        have hmb := MB.out j hj
        by_cases cj : j < m
        · have hlt2 : (j : Int) + 1 < mm := by have := HM.out; omega
          have DJ := Lib.hid (fun w => l03Days_any y (by have := HY.out; omega) (by have := HY.out; omega) j (by omega) ((j : Int) + 1) rfl w)
          have hbj := mlen_bd y j (by omega)
          have e3 : mb (2000 + (i : Int)) (j + 1) = mb (2000 + (i : Int)) j + mlen (2000 + (i : Int)) j := rfl
          have e4 : mlen (2000 + (i : Int)) j = mlen y j := by rw [HY.out]
          rw [e4] at e3
          have HE := Lib.hid e3
          clear e3 e4
          generalize mb (2000 + (i : Int)) j = a at *
          generalize mlen y j = z at *
          go_wp2_with fail
          refine (DJ.out _).mono ?_
          rintro e w' ⟨rfl, rfl⟩
          go_wp2_with fail
          go_roundg (20 - (j + 1))
          case measure => omega
          case rel => exact ⟨j + 1, congrArg (Value.int .i64) (by have := HE.out; omega), congrArg (Value.int .i64) (by omega), by omega, by omega, rfl⟩
        · obtain rfl : j = m := by omega
          have hlt2 : ¬ (j : Int) + 1 < mm := by have := HM.out; omega
          rw [← HDN.out]
          go_wp2_with fail
          refine (LD.out _).mono ?_
          rintro e w' ⟨rfl, rfl⟩
          go_wp2_with fail
          go_ret2
          exact ⟨rfl, rfl⟩

set_option maxHeartbeats 1000000 in
theorem specDayOf_any (y m r : Int) (w : World) :
    Calls Tryd.prog 17 #[.int .i64 y, .int .i64 m, .int .i64 r] w fun e w' => e = .returned (dayV y m r) ∧ Below w.heap.size w w' := by
  unfold dayV
  have Y := Lib.hid (fun w => l03Year_any y w)
  have M := Lib.hid (fun w => l00In_any m 1 12 w)
  cases h1 : inR 2000 2273 [y] with
  | false =>
    rw [if_neg (by simp)]
    rw [h1] at Y
    clear h1
    have F : Hid (∀ w, Calls Tryd.prog 58 #[.int .i64 y, .int .i64 m, .int .i64 r] w fun e w' => e = .returned (.tuple #[.int .i64 0, .bool false]) ∧ w = w') := Lib.hid (by
      intro w
      go_enter Tryd.func58, Tryd.ntmps58
      go_wp2_with fail
      refine (Y.out _).mono ?_
      rintro e w' ⟨rfl, rfl⟩
      go_wp2_with fail
      go_ret2
      exact ⟨rfl, rfl⟩)
    go_enter Tryd.func17, Tryd.ntmps17
    go_wp2_with fail
    refine (F.out _).mono ?_
    rintro e w' ⟨rfl, rfl⟩
    go_wp2_with fail
    go_ret2
    exact ⟨rfl, Below.refl _ _⟩
  | true =>
    rw [if_pos rfl]
    obtain ⟨y0, y1⟩ := (inR_1 _ _ _).1 h1
    rw [h1] at Y
    clear h1
    cases h2 : inR 1 12 [m] with
    | false =>
      rw [if_neg (by simp)]
      rw [h2] at M
      clear h2
      have F : Hid (∀ w, Calls Tryd.prog 58 #[.int .i64 y, .int .i64 m, .int .i64 r] w fun e w' => e = .returned (.tuple #[.int .i64 0, .bool false]) ∧ w = w') := Lib.hid (by
        intro w
        go_enter Tryd.func58, Tryd.ntmps58
        go_wp2_with fail
        refine (Y.out _).mono ?_
        rintro e w' ⟨rfl, rfl⟩
        go_wp2_with fail
        refine (M.out _).mono ?_
        rintro e w' ⟨rfl, rfl⟩
        go_wp2_with fail
        go_ret2
        exact ⟨rfl, rfl⟩)
      go_enter Tryd.func17, Tryd.ntmps17
      go_wp2_with fail
      refine (F.out _).mono ?_
      rintro e w' ⟨rfl, rfl⟩
      go_wp2_with fail
      go_ret2
      exact ⟨rfl, Below.refl _ _⟩
    | true =>
      rw [if_pos rfl]
      obtain ⟨m0, m1⟩ := (inR_1 _ _ _).1 h2
      rw [h2] at M
      clear h2
      obtain ⟨k, hk⟩ : ∃ k : Nat, y - 2000 = (k : Int) := Int.eq_ofNat_of_zero_le (by omega)
      obtain ⟨j, hj⟩ : ∃ j : Nat, m - 1 = (j : Int) := Int.eq_ofNat_of_zero_le (by omega)
      rw [show (y - 2000).toNat = k by omega, show (m - 1).toNat = j by omega]
      cases h3 : inR 1 (mlen y j) [r] with
      | false =>
        rw [if_neg (by simp)]
        have D := Lib.hid (fun w => l03Days_any y (by omega) (by omega) j (by omega) m (by omega) w)
        have DI := Lib.hid (fun w => l00In_any r 1 (mlen y j) w)
        rw [h3] at DI
        clear h3 hk hj
        generalize mlen y j = z0 at *
        have F : Hid (∀ w, Calls Tryd.prog 58 #[.int .i64 y, .int .i64 m, .int .i64 r] w fun e w' => e = .returned (.tuple #[.int .i64 0, .bool false]) ∧ w = w') := Lib.hid (by
          intro w
          go_enter Tryd.func58, Tryd.ntmps58
          go_wp2_with fail
          refine (Y.out _).mono ?_
          rintro e w' ⟨rfl, rfl⟩
          go_wp2_with fail
          refine (M.out _).mono ?_
          rintro e w' ⟨rfl, rfl⟩
          go_wp2_with fail
          refine (D.out _).mono ?_
          rintro e w' ⟨rfl, rfl⟩
          go_wp2_with fail
          refine (DI.out _).mono ?_
          rintro e w' ⟨rfl, rfl⟩
          go_wp2_with fail
          go_ret2
          exact ⟨rfl, rfl⟩)
        go_enter Tryd.func17, Tryd.ntmps17
        go_wp2_with fail
        refine (F.out _).mono ?_
        rintro e w' ⟨rfl, rfl⟩
        go_wp2_with fail
        go_ret2
        exact ⟨rfl, Below.refl _ _⟩
      | true =>
        rw [if_pos rfl]
        have hyk : y = 2000 + (k : Int) := by omega
        have h3' : inR 1 (mlen (2000 + (k : Int)) j) [r] = true := by rw [← hyk]; exact h3
        have F := Lib.hid (fun w => l03Find_ok k j r (by omega) (by omega) h3' y m hyk (by omega) w)
        clear h3 h3' hyk hk hj
        generalize dayN k j r = n at *
        cases h4 : inR 0 99999 [n] with
        | false =>
          rw [if_neg (by simp)]
          rw [h4] at F
          clear h4
          go_enter Tryd.func17, Tryd.ntmps17
          go_wp2_with fail
          refine (F.out _).mono ?_
          rintro e w' ⟨rfl, rfl⟩
          go_wp2_with fail
          go_ret2
          exact ⟨rfl, Below.refl _ _⟩
        | true =>
          rw [if_pos rfl]
          rw [h4] at F
          clear h4
          go_enter Tryd.func17, Tryd.ntmps17
          go_wp2_with fail
          refine (F.out _).mono ?_
          rintro e w' ⟨rfl, rfl⟩
          go_wp2_with fail
          go_ret2
          exact ⟨rfl, Below.refl _ _⟩

theorem monA_lit (y : Int) : monA y = #[.int .i64 31, .int .i64 (mlen y 1), .int .i64 31, .int .i64 30, .int .i64 31, .int .i64 30, .int .i64 31, .int .i64 31, .int .i64 30, .int .i64 31, .int .i64 30, .int .i64 31] := by
  unfold monA mlen
  cases h : leapB y <;> simp [comT]
theorem mon_cells (y : Int) (W : World) (g : Nat) (h : W.cell? ⟨g, 0, none⟩ = some (.int .i64 31) ∧ W.cell? ⟨g, 1, none⟩ = some (.int .i64 (mlen y 1)) ∧ W.cell? ⟨g, 2, none⟩ = some (.int .i64 31) ∧ W.cell? ⟨g, 3, none⟩ = some (.int .i64 30) ∧ W.cell? ⟨g, 4, none⟩ = some (.int .i64 31) ∧ W.cell? ⟨g, 5, none⟩ = some (.int .i64 30) ∧ W.cell? ⟨g, 6, none⟩ = some (.int .i64 31) ∧ W.cell? ⟨g, 7, none⟩ = some (.int .i64 31) ∧ W.cell? ⟨g, 8, none⟩ = some (.int .i64 30) ∧ W.cell? ⟨g, 9, none⟩ = some (.int .i64 31) ∧ W.cell? ⟨g, 10, none⟩ = some (.int .i64 30) ∧ W.cell? ⟨g, 11, none⟩ = some (.int .i64 31)) :
    ∀ j, j < 12 → W.cell? ⟨g, j, none⟩ = some (.int .i64 (mlen y j)) := by
  obtain ⟨h0, h1, h2, h3, h4, h5, h6, h7, h8, h9, h10, h11⟩ := h
  intro j hj
  by_cases c : j = 1
  · subst c; exact h1
  · have e : mlen y j = comT.getD j 0 := by unfold mlen; rw [if_neg (fun hh => c hh.1)]; omega
    rw [e]
    rcases twelveN j hj with rfl | rfl | rfl | rfl | rfl | rfl | rfl | rfl | rfl | rfl | rfl | rfl
    · exact h0
    · exact absurd rfl c
    · exact h2
    · exact h3
    · exact h4
    · exact h5
    · exact h6
    · exact h7
    · exact h8
    · exact h9
    · exact h10
    · exact h11

set_option maxRecDepth 100000 in
set_option maxHeartbeats 2000000 in
theorem dateDay_any (k m : Nat) (r : Int) (hk : k < 274) (hm : m < 12) (r0 : 1 ≤ r) (r1 : r ≤ 31) (w : World) (hc : ComOK w) :
    Calls Tryd.prog 60 #[.agg #[.int .i64 (2000 + (k : Int)), .int .i64 ((m : Int) + 1), .int .i64 r]] w fun e w' => e = .returned (.int .i64 (dayN k m r)) ∧ Below w.heap.size w w' := by
  have YB := Lib.hid (fun i (hi : i ≤ k) => yb_up i (by omega))
  have MB := Lib.hid (fun i (hi : i ≤ m) => mb_up (2000 + (k : Int)) i (by omega))
  have ML := Lib.hid (fun w hc => monthLen_any (2000 + (k : Int)) (by omega) (by omega) w hc)
  have MD := Lib.hid (fun i (hi : i < m) => mlen_bd (2000 + (k : Int)) i (by omega))
  have E := Lib.hid hc
  have HDN : Hid (dayN k m r = r - 1 + yb k + mb (2000 + (k : Int)) m) := Lib.hid rfl
  clear hc
  obtain ⟨W0, hW0⟩ : ∃ W0, W0 = w.alloc (.cells #[.int .i64 (2000 + (k : Int)), .int .i64 ((m : Int) + 1), .int .i64 r] 66) := ⟨_, rfl⟩
  have hB0 : Below w.heap.size w W0 := by rw [hW0]; exact (Below.refl _ w).alloc (Nat.le_refl _) _
  have e0 : W0.cell? ⟨w.heap.size, 0, none⟩ = some (.int .i64 (2000 + (k : Int))) := by rw [hW0]; simp
  have e1 : W0.cell? ⟨w.heap.size, 1, none⟩ = some (.int .i64 ((m : Int) + 1)) := by rw [hW0]; simp
  have e2 : W0.cell? ⟨w.heap.size, 2, none⟩ = some (.int .i64 r) := by rw [hW0]; simp
  have HB0 := Lib.hid hB0
  have HW := Lib.hid hW0
  clear hB0 hW0
  have f0 : 2000 + (k : Int) - 2000 = (k : Int) := by omega
  go_enter Tryd.func60, Tryd.ntmps60
  go_wp2_with fail
  rw [← HW.out]
  clear HW
  have HB0' := HB0
  go_loopg [3, 13] 300 (fun kx s3 s13 wr => ∃ i : Nat, s3 = .int .i64 (r - 1 + yb i) ∧ s13 = .int .i64 (i : Int) ∧ i ≤ k ∧ kx = 300 - i ∧ W0 = wr)
  case atStart => exact ⟨0, by simp [yb], rfl, by omega, by omega, rfl⟩
  case round =>
    obtain ⟨i, rfl, rfl, hi, rfl, rfl⟩ := hrel
    have hyb := YB.out i hi
    by_cases c : i < k
    · have hlt : (i : Int) < (k : Int) := by omega
      have L := Lib.hid (fun w => yearLen_any (2000 + (i : Int)) (by omega) (by omega) w)
      have hyl := ylen_bd (2000 + (i : Int))
      have e3 : yb (i + 1) = yb i + ylen (2000 + (i : Int)) := rfl
      have HE := Lib.hid e3
      clear e3
      generalize yb i = b at *
      generalize ylen (2000 + (i : Int)) = y at *
      go_wp2_with fail
      refine (L.out _).mono ?_
      rintro e w' ⟨rfl, rfl⟩
      go_wp2_with fail
      go_roundg (300 - (i + 1))
      case measure => omega
      case rel => exact ⟨i + 1, congrArg (Value.int .i64) (by have := HE.out; omega), by go_num, by omega, by omega, rfl⟩
    · obtain rfl : i = k := by omega
      rw [monA_lit] at ML
      have MLS : Hid (∀ (W : World) (g : Nat), W.cell? ⟨g, 0, none⟩ = some (.int .i64 31) ∧ W.cell? ⟨g, 1, none⟩ = some (.int .i64 (mlen (2000 + (i : Int)) 1)) ∧ W.cell? ⟨g, 2, none⟩ = some (.int .i64 31) ∧ W.cell? ⟨g, 3, none⟩ = some (.int .i64 30) ∧ W.cell? ⟨g, 4, none⟩ = some (.int .i64 31) ∧ W.cell? ⟨g, 5, none⟩ = some (.int .i64 30) ∧ W.cell? ⟨g, 6, none⟩ = some (.int .i64 31) ∧ W.cell? ⟨g, 7, none⟩ = some (.int .i64 31) ∧ W.cell? ⟨g, 8, none⟩ = some (.int .i64 30) ∧ W.cell? ⟨g, 9, none⟩ = some (.int .i64 31) ∧ W.cell? ⟨g, 10, none⟩ = some (.int .i64 30) ∧ W.cell? ⟨g, 11, none⟩ = some (.int .i64 31) → ∀ j, j < 12 → W.cell? ⟨g, j, none⟩ = some (.int .i64 (mlen (2000 + (i : Int)) j))) := Lib.hid (fun W g h => mon_cells (2000 + (i : Int)) W g h)
      generalize mlen (2000 + (i : Int)) 1 = z1 at *
      generalize hyy : 2000 + (i : Int) = y at *
      have HY := Lib.hid hyy
      clear hyy
      go_wp2_with fail
      refine (ML.out _ (E.out.below HB0'.out)).mono ?_
      rintro e w1 ⟨rfl, hb1⟩
      have f1' : w1.cell? ⟨w.heap.size, 1, none⟩ = some (.int .i64 ((m : Int) + 1)) := (hb1.cell (p := ⟨w.heap.size, 1, none⟩) (World.block_lt_of_cell? W0 ⟨w.heap.size, 1, none⟩ e1)).trans e1
      have hlt1 : w.heap.size < w1.heap.size := World.block_lt_of_cell? w1 ⟨w.heap.size, 1, none⟩ f1'
      have HB1 := Lib.hid (HB0'.out.trans (hb1.mono HB0'.out.size))
      obtain ⟨W2, hW2⟩ : ∃ W2, W2 = w1.alloc (.cells #[.int .i64 31, .int .i64 z1, .int .i64 31, .int .i64 30, .int .i64 31, .int .i64 30, .int .i64 31, .int .i64 31, .int .i64 30, .int .i64 31, .int .i64 30, .int .i64 31] 63) := ⟨_, rfl⟩
      have hcs := MLS.out W2 w1.heap.size (by rw [hW2]; refine ⟨by simp, by simp, by simp, by simp, by simp, by simp, by simp, by simp, by simp, by simp, by simp, by simp⟩)
      have g1 : W2.cell? ⟨w.heap.size, 1, none⟩ = some (.int .i64 ((m : Int) + 1)) := by
        have hb2 : Below w1.heap.size w1 W2 := by rw [hW2]; exact (Below.refl _ w1).alloc (Nat.le_refl _) _
        exact (hb2.cell (p := ⟨w.heap.size, 1, none⟩) hlt1).trans f1'
      have HB2 : Hid (Below w.heap.size w W2) := Lib.hid (by rw [hW2]; exact HB1.out.alloc HB1.out.size _)
      have HCS := Lib.hid hcs
      have HW2 := Lib.hid hW2
      have f3 : (m : Int) + 1 - 1 = (m : Int) := by omega
      have g0 : (w1.alloc (.cells #[.int .i64 31, .int .i64 z1, .int .i64 31, .int .i64 30, .int .i64 31, .int .i64 30, .int .i64 31, .int .i64 31, .int .i64 30, .int .i64 31, .int .i64 30, .int .i64 31] 63)).cell? ⟨w.heap.size, 1, none⟩ = some (.int .i64 ((m : Int) + 1)) := by rw [← hW2]; exact g1
      clear hcs hW2 hb1 e0 e1 e2 f1'
      go_wp2_with fail
      rw [← HW2.out]
      clear HW2 g0
      go_loopg [3, 28] 20 (fun kx s3 s28 wr => ∃ j : Nat, s3 = .int .i64 (r - 1 + yb i + mb y j) ∧ s28 = .int .i64 (j : Int) ∧ j ≤ m ∧ kx = 20 - j ∧ W2 = wr)
      case atStart => exact ⟨0, by simp [mb], rfl, by omega, by omega, rfl⟩
      case round =>
        obtain ⟨j, rfl, rfl, hj, rfl, rfl⟩ := hrel
        have hmb := MB.out j hj
        by_cases cj : j < m
        · have hlt2 : (j : Int) < (m : Int) := by omega
          have cj' := HCS.out j (by omega)
          have hbj := MD.out j cj
          have e3 : mb y (j + 1) = mb y j + mlen y j := rfl
          have HE := Lib.hid e3
          clear e3
          have j0 : (0 : Int) ≤ (j : Int) := by omega
          have j1 : (j : Int) < 12 := by omega
          generalize mb y j = a at *
          generalize mlen y j = z at *
          go_wp2_with fail
          go_roundg (20 - (j + 1))
          case measure => omega
          case rel => exact ⟨j + 1, congrArg (Value.int .i64) (by have := HE.out; omega), by go_num, by omega, by omega, rfl⟩
        · obtain rfl : j = m := by omega
          have hlt2 : ¬ (j : Int) < (j : Int) := by omega
          have hd := HDN.out
          rw [← hd]
          clear hd
          go_wp2_with fail
          go_ret
          exact ⟨rfl, HB2.out⟩
end Go.Proofs.YtnadgldgdmppkaaDoor
