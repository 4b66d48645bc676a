/-
  Dates of days: the contracts of l03Date, DateOf (package spec) and of dateOf, DateOf (package impl).
-/
import Derived.Test.YtnadgldgdmppkaaDoorDay
import Derived.Deep.LoopGhost
import Derived.Deep.Draws
import Derived.RegionTactic
import Derived.Deep.QuietTactic
import Derived.BigQuiet
namespace Go.Proofs.YtnadgldgdmppkaaDoor
open Go.RowKit
set_option linter.unusedVariables false

def dateT (d : Int) : Value := .tuple #[.int .i64 (2000 + (yearN d : Int)), .int .i64 ((monN d : Int) + 1), .int .i64 (dayR d + 1)]
def dateV (d : Int) : Value := if inR 0 99999 [d] = true then .tuple #[.int .i64 (2000 + (yearN d : Int)), .int .i64 ((monN d : Int) + 1), .int .i64 (dayR d + 1), .int .i64 0] else .tuple #[.int .i64 0, .int .i64 0, .int .i64 0, .int .i64 2]
theorem dateV_form (d : Int) : ∃ a b c e : Int, dateV d = .tuple #[.int .i64 a, .int .i64 b, .int .i64 c, .int .i64 e] := by
  unfold dateV
  split
  · exact ⟨_, _, _, _, rfl⟩
  · exact ⟨_, _, _, _, rfl⟩
/-- Where the search for a date has come: not beyond it. -/
def upTo (d : Int) (k m : Nat) : Prop := m < 12 ∧ (k < yearN d ∨ (k = yearN d ∧ m ≤ monN d))
def restAt (d : Int) (k m : Nat) : Int := d - yb k - mb (2000 + (k : Int)) m
theorem rest_go (d : Int) (h0 : 0 ≤ d) (h1 : d ≤ 99999) (k m : Nat) (h : upTo d k m) (hn : ¬ (k = yearN d ∧ m = monN d)) : mlen (2000 + (k : Int)) m ≤ restAt d k m := by
  obtain ⟨hm, h⟩ := h
  have e1 : mb (2000 + (k : Int)) (m + 1) = mb (2000 + (k : Int)) m + mlen (2000 + (k : Int)) m := rfl
  have e2 := mb_12 (2000 + (k : Int))
  have e3 : yb (k + 1) = yb k + ylen (2000 + (k : Int)) := rfl
  have hle := mb_le (2000 + (k : Int)) (m + 1) 12 (by omega) (by omega)
  unfold restAt
  by_cases c : k < yearN d
  · have h2 := yb_le (k + 1) (yearN d) (by omega)
    have h3 := year_low d h0 h1
    omega
  · obtain rfl : k = yearN d := by omega
    have hmm : m < monN d := by omega
    have h2 := mb_le (2000 + (yearN d : Int)) (m + 1) (monN d) (by omega) (by have := mon_lt d h1; omega)
    have h3 := mon_low d h0 h1
    omega
theorem rest_end (d : Int) : restAt d (yearN d) (monN d) = dayR d := rfl
theorem rest_next (d : Int) (k m : Nat) : restAt d k (m + 1) = restAt d k m - mlen (2000 + (k : Int)) m := by
  unfold restAt
  have e1 : mb (2000 + (k : Int)) (m + 1) = mb (2000 + (k : Int)) m + mlen (2000 + (k : Int)) m := rfl
  omega
theorem rest_year (d : Int) (k : Nat) : restAt d (k + 1) 0 = restAt d k 12 := by
  unfold restAt
  have e2 := mb_12 (2000 + (k : Int))
  have e3 : yb (k + 1) = yb k + ylen (2000 + (k : Int)) := rfl
  have e4 : mb (2000 + ((k + 1 : Nat) : Int)) 0 = 0 := rfl
  omega
theorem rest_bd (d : Int) (h0 : 0 ≤ d) (h1 : d ≤ 99999) (k m : Nat) (h : upTo d k m) : 0 ≤ restAt d k m ∧ restAt d k m ≤ 99999 := by
  have hn := mb_nonneg (2000 + (k : Int)) m (by have := h.1; omega)
  have hy := yb_nonneg k
  by_cases c : k = yearN d ∧ m = monN d
  · obtain ⟨rfl, rfl⟩ := c
    rw [rest_end]
    have hr := dayR_bd d h0 h1
    have hb := mlen_bd (2000 + (yearN d : Int)) (monN d) (mon_lt d h1)
    omega
  · have hg := rest_go d h0 h1 k m h c
    have hb := mlen_bd (2000 + (k : Int)) m h.1
    unfold restAt at *
    omega

set_option maxRecDepth 100000 in
set_option maxHeartbeats 1000000 in
theorem l03Date_any (d : Int) (h0 : 0 ≤ d) (h1 : d ≤ 99999) (w : World) :
    Calls Tryd.prog 55 #[.int .i64 d] w fun e w' => e = .returned (dateT d) ∧ w = w' := by
  have hy := year_lt d h1
  have hm := mon_lt d h1
  have hr := dayR_bd d h0 h1
  have hml := mlen_bd (2000 + (yearN d : Int)) (monN d) hm
  have hst : restAt d 0 0 = d := by unfold restAt; simp [yb, mb]
  have ST := Lib.hid hst
  clear hst
  unfold dateT
  go_enter Tryd.func55, Tryd.ntmps55
  go_wp2_with fail
  go_loopg [0, 5, 6] 10000 (fun kx s0 s5 s6 wr => ∃ k m : Nat, s0 = .int .i64 (restAt d k m) ∧ s5 = .int .i64 (2000 + (k : Int)) ∧ s6 = .int .i64 ((m : Int) + 1) ∧ upTo d k m ∧ kx = 10000 - (k * 12 + m) ∧ w = wr)
  case atStart => exact ⟨0, 0, by rw [ST.out], by simp, by simp, ⟨by omega, by by_cases c : 0 < yearN d; exact .inl c; exact .inr ⟨by omega, by omega⟩⟩, by omega, rfl⟩
  case round =>
    obtain ⟨k, m, rfl, rfl, rfl, hu, rfl, rfl⟩ := hrel
    have hk : k < 274 := by have := hu.2; omega
    have hmm := hu.1
    have L := Lib.hid (fun w => l03Days_any (2000 + (k : Int)) (by omega) (by omega) m hu.1 ((m : Int) + 1) rfl w)
    have hb := mlen_bd (2000 + (k : Int)) m hu.1
    have hrb := rest_bd d h0 h1 k m hu
    by_cases c : k = yearN d ∧ m = monN d
    · obtain ⟨rfl, rfl⟩ := c
      rw [rest_end] at hrb ⊢
      have hlt : ¬ mlen (2000 + (yearN d : Int)) (monN d) ≤ dayR d := by omega
      generalize mlen (2000 + (yearN d : Int)) (monN d) = z at *
      clear hu ST
      go_wp2_with fail
      refine (L.out _).mono ?_
      rintro e w' ⟨rfl, rfl⟩
      go_wp2_with fail
      refine bodyPost_ret (v := .tuple #[.int .i64 (2000 + (yearN d : Int)), .int .i64 ((monN d : Int) + 1), .int .i64 (dayR d + 1)]) (by simp [results, Tryd.results55, go_sem]) rfl ⟨rfl, rfl⟩
    · have hge := rest_go d h0 h1 k m hu c
      have HX := Lib.hid (rest_next d k m)
      have HY := Lib.hid (rest_year d k)
      have HU := Lib.hid hu
      generalize hz : mlen (2000 + (k : Int)) m = z at *
      generalize hrr : restAt d k m = r at *
      have HR := Lib.hid hrr
      clear hu hrr ST hz
      by_cases c12 : m = 11
      · subst c12
        have hgt : (12 : Int) < ((11 : Nat) : Int) + 1 + 1 := by omega
        have hu2 : upTo d (k + 1) 0 := by
          have h2 := HU.out
          refine ⟨by omega, ?_⟩
          rcases h2.2 with h3 | h3
          · by_cases c4 : k + 1 < yearN d
            · exact .inl c4
            · exact .inr ⟨by omega, by omega⟩
          · have := mon_lt d h1
            exfalso
            exact c ⟨h3.1, by omega⟩
        have HU2 := Lib.hid hu2
        clear hu2
        go_wp2_with fail
        refine (L.out _).mono ?_
        rintro e w' ⟨rfl, rfl⟩
        go_wp2_with fail
        refine (L.out _).mono ?_
        rintro e w' ⟨rfl, rfl⟩
        go_wp2_with fail
        go_roundg (10000 - ((k + 1) * 12 + 0))
        case measure => omega
        case rel => exact ⟨k + 1, 0, congrArg (Value.int .i64) (by rw [HY.out]; exact HX.out.symm), congrArg (Value.int .i64) (by omega), by simp, HU2.out, rfl, rfl⟩
      · have hngt : ¬ (12 : Int) < (m : Int) + 1 + 1 := by omega
        have hu2 : upTo d k (m + 1) := by
          have h2 := HU.out
          refine ⟨by omega, ?_⟩
          rcases h2.2 with h3 | h3
          · exact .inl h3
          · exact .inr ⟨h3.1, by have := h3.2; omega⟩
        have HU2 := Lib.hid hu2
        clear hu2
        go_wp2_with fail
        refine (L.out _).mono ?_
        rintro e w' ⟨rfl, rfl⟩
        go_wp2_with fail
        refine (L.out _).mono ?_
        rintro e w' ⟨rfl, rfl⟩
        go_wp2_with fail
        go_roundg (10000 - (k * 12 + (m + 1)))
        case measure => omega
        case rel => exact ⟨k, m + 1, congrArg (Value.int .i64) HX.out.symm, rfl, by go_num, HU2.out, rfl, rfl⟩

set_option maxHeartbeats 400000 in
theorem l03DayD_any (d : Int) (w : World) :
    Calls Tryd.prog 54 #[.int .i64 d] w fun e w' => e = .returned (.bool (inR 0 99999 [d])) ∧ w = w' := by
  go_enter Tryd.func54, Tryd.ntmps54
  go_wp2_with fail
  refine (l00In_any _ _ _ _).mono ?_
  rintro e w' ⟨rfl, rfl⟩
  go_wp2_with fail
  go_ret
  exact ⟨rfl, rfl⟩
set_option maxHeartbeats 400000 in
theorem isDayD_any (d : Int) (w : World) :
    Calls Tryd.prog 56 #[.int .i64 d] w fun e w' => e = .returned (.bool (inR 0 99999 [d])) ∧ Below w.heap.size w w' := by
  go_enter Tryd.func56, Tryd.ntmps56
  go_wp2_with fail
  refine (within1 _ _ d _ _ _ (by simp)).mono ?_
  rintro e w' ⟨rfl, rfl⟩
  go_wp2_with fail
  go_ret
  refine ⟨rfl, ?_⟩
  repeat (first | exact Below.refl _ _ | refine Below.setCell ?_ (by first | (simp; done) | omega | (simp; omega)) _ | refine Below.alloc ?_ (by first | (simp; done) | omega | (simp; omega)) _ | refine bel_drew ?_)
set_option maxHeartbeats 400000 in
theorem specDate_any (d : Int) (w : World) :
    Calls Tryd.prog 15 #[.int .i64 d] w fun e w' => e = .returned (dateV d) ∧ Below w.heap.size w w' := by
  unfold dateV
  have D := Lib.hid (fun w => l03DayD_any d w)
  cases h : inR 0 99999 [d] with
  | false =>
    rw [if_neg (by simp)]
    rw [h] at D
    clear h
    go_enter Tryd.func15, Tryd.ntmps15
    go_wp2_with fail
    refine (D.out _).mono ?_
    rintro e w' ⟨rfl, rfl⟩
    go_wp2_with fail
    refine bodyPost_ret (v := .tuple #[.int .i64 0, .int .i64 0, .int .i64 0, .int .i64 2]) (by simp [results, Tryd.results15, go_sem]) rfl ⟨rfl, Below.refl _ _⟩
  | true =>
    rw [if_pos rfl]
    obtain ⟨h0, h1⟩ := (inR_1 _ _ _).1 h
    rw [h] at D
    clear h
    have T := Lib.hid (fun w => l03Date_any d h0 h1 w)
    unfold dateT at T
    generalize 2000 + (yearN d : Int) = a at *
    generalize (monN d : Int) + 1 = b at *
    generalize dayR d + 1 = c at *
    go_enter Tryd.func15, Tryd.ntmps15
    go_wp2_with fail
    refine (D.out _).mono ?_
    rintro e w' ⟨rfl, rfl⟩
    go_wp2_with fail
    refine (T.out _).mono ?_
    rintro e w' ⟨rfl, rfl⟩
    go_wp2_with fail
    refine bodyPost_ret (v := .tuple #[.int .i64 a, .int .i64 b, .int .i64 c, .int .i64 0]) (by simp [results, Tryd.results15, go_sem]) rfl ⟨rfl, Below.refl _ _⟩

theorem drewNS {w : World} {n : Nat} : Below w.heap.size w (w.drewN n) := ⟨rfl, rfl, rfl, Nat.le_refl _, fun _ _ => rfl⟩
/-- The cells of the result and of the date that is found, both made at entry. -/
def DS (w W : World) (p q r : Int) : Prop := Below w.heap.size w W ∧ w.heap.size + 1 < W.heap.size ∧
  (W.cell? ⟨w.heap.size, 0, none⟩ = some (.int .i64 0) ∧ W.cell? ⟨w.heap.size, 1, none⟩ = some (.int .i64 0) ∧ W.cell? ⟨w.heap.size, 2, none⟩ = some (.int .i64 0) ∧ W.frozen? ⟨w.heap.size, 0, none⟩ = false ∧ W.frozen? ⟨w.heap.size, 1, none⟩ = false ∧ W.frozen? ⟨w.heap.size, 2, none⟩ = false) ∧
  (W.cell? ⟨w.heap.size + 1, 0, none⟩ = some (.int .i64 p) ∧ W.cell? ⟨w.heap.size + 1, 1, none⟩ = some (.int .i64 q) ∧ W.cell? ⟨w.heap.size + 1, 2, none⟩ = some (.int .i64 r) ∧ W.frozen? ⟨w.heap.size + 1, 0, none⟩ = false ∧ W.frozen? ⟨w.heap.size + 1, 1, none⟩ = false ∧ W.frozen? ⟨w.heap.size + 1, 2, none⟩ = false)
theorem DS.on {w W W' : World} {p q r : Int} (h : DS w W p q r) (hb : Below W.heap.size W W') : DS w W' p q r := by
  obtain ⟨h0, h1, ⟨a0, a1, a2, a3, a4, a5⟩, b0, b1, b2, b3, b4, b5⟩ := h
  obtain ⟨k1, k2⟩ := bcell hb
  have hs := hb.size
  exact ⟨h0.trans (hb.mono h0.size), by omega, ⟨(k1 _ _ (by omega)).trans a0, (k1 _ _ (by omega)).trans a1, (k1 _ _ (by omega)).trans a2, (k2 _ _ (by omega)).trans a3, (k2 _ _ (by omega)).trans a4, (k2 _ _ (by omega)).trans a5⟩,
    (k1 _ _ (by omega)).trans b0, (k1 _ _ (by omega)).trans b1, (k1 _ _ (by omega)).trans b2, (k2 _ _ (by omega)).trans b3, (k2 _ _ (by omega)).trans b4, (k2 _ _ (by omega)).trans b5⟩

end Go.Proofs.YtnadgldgdmppkaaDoor
