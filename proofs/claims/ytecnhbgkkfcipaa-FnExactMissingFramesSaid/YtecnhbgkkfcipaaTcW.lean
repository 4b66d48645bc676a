/-
  Time codes: the helpers of both packages: which rates, codes and numbers there are.
-/
import Derived.Test.YtecnhbgkkfcipaaTcM
import Derived.Test.YtecnhbgkkfcipaaCd0
import Derived.RegionTactic
import Derived.Deep.QuietTactic
import Derived.BigQuiet
import Derived.Deep.Draws
import Derived.Deep.LoopGhost
import Derived.Deep.RegionHeld3
import Derived.Deep.RegionWith
import Derived.StillTailTactics
import Derived.Shelf.Abstract
import Derived.Handy
namespace Go.Proofs.Ytecnhbgkkfcipaa.Tc
open Go.RowKit
set_option linter.unusedVariables false

theorem quiet_leftT {P : Program} {f : FuncId} {args : Array Value} {w : World} {n : Nat} {v : Value}
    (h : Calls P f args (w.drewN n) fun e w' => e = .returned v ∧ w.drewN n = w') : Calls P f args (w.drewN n) fun e w'' => e = .returned v ∧ ∃ m, w'' = w.drewN m :=
  h.mono fun _ _ ⟨he, hm⟩ => ⟨he, n, hm.symm⟩
theorem quiet_ddT {P : Program} {f : FuncId} {args : Array Value} {w : World} {n : Nat} {v : Value}
    (h : Calls P f args (w.drewN n) fun e w' => e = .returned v ∧ ∃ m, w' = (w.drewN n).drewN m) : Calls P f args (w.drewN n) fun e w'' => e = .returned v ∧ ∃ m, w'' = w.drewN m :=
  h.mono fun _ _ ⟨he, m, hm⟩ => ⟨he, n + m, by rw [hm, World.drewN_drewN]⟩
theorem bel_dT {B : Nat} {a w : World} (h : Below B a w) (n : Nat) : Below B a (w.drewN n) := ⟨h.os, h.tape, h.output, h.size, h.block⟩
theorem tdiv_e {a b : Int} (h : 0 ≤ a) : a.tdiv b = a / b := Int.tdiv_eq_ediv_of_nonneg h
theorem tmod_e {a b : Int} (h : 0 ≤ a) : a.tmod b = a % b := Int.tmod_eq_emod_of_nonneg h
set_option maxHeartbeats 400000 in
theorem isValid_any (r : Int) (w : World) :
    Calls Try.prog 54 #[.int .i64 r] w fun e w' => e = .returned (.bool (isR r)) ∧ w = w' := by
  by_cases a : r = 24
  · subst a
    go_enter Try.func54, Try.ntmps54
    go_wp2_with fail
    go_ret
    exact ⟨rfl, rfl⟩
  have ab : (r == 24) = false := beq_eq_false_iff_ne.2 a
  by_cases b : r = 25
  · subst b
    clear a ab
    go_enter Try.func54, Try.ntmps54
    go_wp2_with fail
    go_ret
    exact ⟨rfl, rfl⟩
  have bb : (r == 25) = false := beq_eq_false_iff_ne.2 b
  by_cases c : r = 30
  · subst c
    clear a ab b bb
    go_enter Try.func54, Try.ntmps54
    go_wp2_with fail
    go_ret
    exact ⟨rfl, rfl⟩
  have cb : (r == 30) = false := beq_eq_false_iff_ne.2 c
  have e : isR r = false := by unfold isR; simp [a, b, c]
  rw [e]
  clear a b c e
  go_enter Try.func54, Try.ntmps54
  go_wp2_with fail
  go_ret
  exact ⟨rfl, rfl⟩
set_option maxHeartbeats 400000 in
theorem rate_any (r : Int) (w : World) :
    Calls Try.prog 51 #[.int .i64 r] w fun e w' => e = .returned (.bool (isR r)) ∧ w = w' := by
  by_cases a : r = 24
  · subst a
    go_enter Try.func51, Try.ntmps51
    go_wp2_with fail
    go_ret
    exact ⟨rfl, rfl⟩
  have ab : (r == 24) = false := beq_eq_false_iff_ne.2 a
  by_cases b : r = 25
  · subst b
    clear a ab
    go_enter Try.func51, Try.ntmps51
    go_wp2_with fail
    go_ret
    exact ⟨rfl, rfl⟩
  have bb : (r == 25) = false := beq_eq_false_iff_ne.2 b
  by_cases c : r = 30
  · subst c
    clear a ab b bb
    go_enter Try.func51, Try.ntmps51
    go_wp2_with fail
    go_ret
    exact ⟨rfl, rfl⟩
  have cb : (r == 30) = false := beq_eq_false_iff_ne.2 c
  have e : isR r = false := by unfold isR; simp [a, b, c]
  rw [e]
  clear a b c e
  go_enter Try.func51, Try.ntmps51
  go_wp2_with fail
  go_ret
  exact ⟨rfl, rfl⟩
set_option maxHeartbeats 400000 in
theorem left_any (r m : Int) (hm : 0 ≤ m) (hm' : m ≤ 1440) (w : World) :
    Calls Try.prog 47 #[.int .i64 r, .int .i64 m] w fun e w' => e = .returned (.int .i64 (leftN r m)) ∧ w = w' := by
  unfold leftN
  by_cases c : r = 30
  · subst c
    rw [if_pos rfl]
    by_cases h : m % 10 = 0
    · rw [if_pos h]
      have hb : (m % 10 == 0) = true := by rw [h]; rfl
      go_enter Try.func47, Try.ntmps47
      go_wp2_with fail
      go_ret
      exact ⟨rfl, rfl⟩
    · rw [if_neg h]
      have hb : (m % 10 == 0) = false := beq_eq_false_iff_ne.2 h
      go_enter Try.func47, Try.ntmps47
      go_wp2_with fail
      go_ret
      exact ⟨rfl, rfl⟩
  · rw [if_neg c]
    have cb : (r == 30) = false := beq_eq_false_iff_ne.2 c
    clear c
    go_enter Try.func47, Try.ntmps47
    go_wp2_with fail
    go_ret
    exact ⟨rfl, rfl⟩
set_option maxHeartbeats 400000 in
theorem up10_any (m : Int) (hm : 0 ≤ m) (hm' : m ≤ 1440) (w : World) :
    Calls Try.prog 80 #[.int .i64 m, .int .i64 10] w fun e w' => e = .returned (.int .i64 ((m + 9) / 10)) ∧ w = w' := by
  by_cases h : m % 10 = 0
  · have e : (m + 9) / 10 = m / 10 := by omega
    rw [e]
    clear e
    have hb : (m % 10 == 0) = true := by rw [h]; rfl
    go_enter Try.func80, Try.ntmps80
    go_wp2_with fail
    go_ret
    exact ⟨rfl, rfl⟩
  · have e : (m + 9) / 10 = m / 10 + 1 := by omega
    rw [e]
    clear e
    have hb : (m % 10 == 0) = false := beq_eq_false_iff_ne.2 h
    go_enter Try.func80, Try.ntmps80
    go_wp2_with fail
    go_ret
    exact ⟨rfl, rfl⟩
set_option maxHeartbeats 400000 in
theorem codes_any (r m : Int) (hr : isR r = true) (hm : 0 ≤ m) (hm' : m ≤ 1440) (w : World) :
    Calls Try.prog 74 #[.int .i64 r, .int .i64 m] w fun e w' => e = .returned (.int .i64 (codesN r m)) ∧ w = w' := by
  have U := Lib.hid (fun w => up10_any m hm hm' w)
  unfold codesN
  rcases isR_cases hr with rfl | rfl | rfl
  · rw [if_neg (by decide)]
    clear hr
    go_enter Try.func74, Try.ntmps74
    go_wp2_with fail
    go_ret
    exact ⟨rfl, rfl⟩
  · rw [if_neg (by decide)]
    clear hr
    go_enter Try.func74, Try.ntmps74
    go_wp2_with fail
    go_ret
    exact ⟨rfl, rfl⟩
  · rw [if_pos rfl]
    clear hr
    have h1 : 0 ≤ (m + 9) / 10 := by omega
    have h2 : (m + 9) / 10 ≤ m + 1 := by omega
    generalize (m + 9) / 10 = u at *
    go_enter Try.func74, Try.ntmps74
    go_wp2_with fail
    refine (U.out _).mono ?_
    rintro e w' ⟨rfl, rfl⟩
    go_wp2_with fail
    go_ret
    exact ⟨rfl, rfl⟩
set_option maxHeartbeats 400000 in
theorem second_any (r : Int) (w : World) :
    Calls Try.prog 77 #[.int .i64 r] w fun e w' => e = .returned (.int .i64 (if r = 30 then 1001 else 1000)) ∧ w = w' := by
  by_cases c : r = 30
  · subst c
    rw [if_pos rfl]
    go_enter Try.func77, Try.ntmps77
    go_wp2_with fail
    go_ret
    exact ⟨rfl, rfl⟩
  · rw [if_neg c]
    have cb : (r == 30) = false := beq_eq_false_iff_ne.2 c
    clear c
    go_enter Try.func77, Try.ntmps77
    go_wp2_with fail
    go_ret
    exact ⟨rfl, rfl⟩
set_option maxHeartbeats 400000 in
theorem rateOf_any (a b c d r : Int) (w : World) :
    Calls Try.prog 46 #[.agg #[.int .i64 a, .int .i64 b, .int .i64 c, .int .i64 d, .int .i64 r]] w fun e w' => e = .returned (.int .i64 r) ∧ Below w.heap.size w w' := by
  go_enter Try.func46, Try.ntmps46
  go_wp2_with fail
  go_ret
  refine ⟨rfl, ?_⟩
  repeat (first | exact Below.refl _ _ | refine Below.setCell ?_ (by first | (simp; done) | omega | (simp; omega)) _ | refine Below.alloc ?_ (by first | (simp; done) | omega | (simp; omega)) _ | refine bel_drew ?_)
set_option maxHeartbeats 400000 in
theorem milliOf_any (n r : Int) (hr : isR r = true) (hn : 0 ≤ n) (hn' : n ≤ 100000000) (w : World) :
    Calls Try.prog 58 #[.int .i64 r, .int .i64 n] w fun e w' => e = .returned (.int .i64 (milN n r)) ∧ w = w' := by
  have S := Lib.hid (fun w => second_any r w)
  unfold milN
  rcases isR_cases hr with rfl | rfl | rfl
  · rw [if_neg (by decide)]
    rw [if_neg (by decide)] at S
    clear hr
    go_enter Try.func58, Try.ntmps58
    go_wp2_with fail
    refine (S.out _).mono ?_
    rintro e w' ⟨rfl, rfl⟩
    go_wp2_with fail
    go_ret
    exact ⟨rfl, rfl⟩
  · rw [if_neg (by decide)]
    rw [if_neg (by decide)] at S
    clear hr
    go_enter Try.func58, Try.ntmps58
    go_wp2_with fail
    refine (S.out _).mono ?_
    rintro e w' ⟨rfl, rfl⟩
    go_wp2_with fail
    go_ret
    exact ⟨rfl, rfl⟩
  · rw [if_pos rfl]
    rw [if_pos rfl] at S
    clear hr
    go_enter Try.func58, Try.ntmps58
    go_wp2_with fail
    refine (S.out _).mono ?_
    rintro e w' ⟨rfl, rfl⟩
    go_wp2_with fail
    go_ret
    exact ⟨rfl, rfl⟩
set_option maxHeartbeats 400000 in
theorem l16Milli_any (n r : Int) (hr : isR r = true) (hn : 0 ≤ n) (hn' : n ≤ 100000000) (w : World) :
    Calls Try.prog 56 #[.int .i64 n, .int .i64 r] w fun e w' => e = .returned (.int .i64 (milN n r)) ∧ w = w' := by
  have S := Lib.hid (fun w => second_any r w)
  unfold milN
  rcases isR_cases hr with rfl | rfl | rfl
  · rw [if_neg (by decide)]
    rw [if_neg (by decide)] at S
    clear hr
    go_enter Try.func56, Try.ntmps56
    go_wp2_with fail
    go_ret
    exact ⟨rfl, rfl⟩
  · rw [if_neg (by decide)]
    rw [if_neg (by decide)] at S
    clear hr
    go_enter Try.func56, Try.ntmps56
    go_wp2_with fail
    go_ret
    exact ⟨rfl, rfl⟩
  · rw [if_pos rfl]
    rw [if_pos rfl] at S
    clear hr
    go_enter Try.func56, Try.ntmps56
    go_wp2_with fail
    go_ret
    exact ⟨rfl, rfl⟩
set_option maxHeartbeats 400000 in
theorem frameAt_any (n r : Int) (hr : isR r = true) (hn : 0 ≤ n) (hn' : n ≤ 1000000000) (w : World) :
    Calls Try.prog 62 #[.int .i64 r, .int .i64 n] w fun e w' => e = .returned (.int .i64 (atN n r)) ∧ w = w' := by
  have S := Lib.hid (fun w => second_any r w)
  unfold atN
  rcases isR_cases hr with rfl | rfl | rfl
  · rw [if_neg (by decide)]
    rw [if_neg (by decide)] at S
    clear hr
    go_enter Try.func62, Try.ntmps62
    go_wp2_with fail
    refine (S.out _).mono ?_
    rintro e w' ⟨rfl, rfl⟩
    go_wp2_with fail
    go_ret
    exact ⟨rfl, rfl⟩
  · rw [if_neg (by decide)]
    rw [if_neg (by decide)] at S
    clear hr
    go_enter Try.func62, Try.ntmps62
    go_wp2_with fail
    refine (S.out _).mono ?_
    rintro e w' ⟨rfl, rfl⟩
    go_wp2_with fail
    go_ret
    exact ⟨rfl, rfl⟩
  · rw [if_pos rfl]
    rw [if_pos rfl] at S
    clear hr
    go_enter Try.func62, Try.ntmps62
    go_wp2_with fail
    refine (S.out _).mono ?_
    rintro e w' ⟨rfl, rfl⟩
    go_wp2_with fail
    go_ret
    exact ⟨rfl, rfl⟩
set_option maxHeartbeats 400000 in
theorem l16Day_any (n : Int) (w : World) :
    Calls Try.prog 59 #[.int .i64 n] w fun e w' => e = .returned (.bool (inR 0 86400000 [n])) ∧ w = w' := by
  go_enter Try.func59, Try.ntmps59
  go_wp2_with fail
  refine (l00In_any _ _ _ _).mono ?_
  rintro e w' ⟨rfl, rfl⟩
  go_wp2_with fail
  go_ret
  exact ⟨rfl, rfl⟩
set_option maxHeartbeats 400000 in
theorem isFrame_any (n : Int) (w : World) :
    Calls Try.prog 57 #[.int .i64 n] w fun e w' => e = .returned (.bool (inR 0 8640000 [n])) ∧ Below w.heap.size w w' := by
  go_enter Try.func57, Try.ntmps57
  go_wp2_with fail
  refine (within1 _ _ n _ _ _ (by simp)).mono ?_
  rintro e w' ⟨rfl, rfl⟩
  go_wp2_with fail
  go_ret
  exact ⟨rfl, (Below.refl _ _).alloc (Nat.le_refl _) _⟩
set_option maxHeartbeats 400000 in
theorem isDay_any (n : Int) (w : World) :
    Calls Try.prog 61 #[.int .i64 n] w fun e w' => e = .returned (.bool (inR 0 86400000 [n])) ∧ Below w.heap.size w w' := by
  go_enter Try.func61, Try.ntmps61
  go_wp2_with fail
  refine (within1 _ _ n _ _ _ (by simp)).mono ?_
  rintro e w' ⟨rfl, rfl⟩
  go_wp2_with fail
  go_ret
  exact ⟨rfl, (Below.refl _ _).alloc (Nat.le_refl _) _⟩
set_option maxHeartbeats 1000000 in
theorem l16At_any (n r : Int) (hr : isR r = true) (hn : 0 ≤ n) (hn' : n ≤ 1000000000) (w : World) :
    Calls Try.prog 60 #[.int .i64 n, .int .i64 r] w fun e w' => e = .returned (.int .i64 (atN n r)) ∧ w = w' := by
  obtain ⟨A0, A1, A2⟩ := at0_le hr hn
  have ST := Lib.hid (fun x hx => at_step (r := r) hr (milli := n) (x := x) hx)
  have M := Lib.hid (fun x h0 h1 w => l16Milli_any (x + 1) r hr h0 h1 w)
  generalize hA : atN n r = F at *
  have BD : Hid (F ≤ 50000000) := Lib.hid (by
    rw [← hA]; unfold atN
    rcases isR_cases hr with rfl | rfl | rfl
    · rw [if_neg (by decide)]; omega
    · rw [if_neg (by decide)]; omega
    · rw [if_pos rfl]; omega)
  clear hA
  have main : ∀ st : Int, st = at0 n r → Calls Try.prog 60 #[.int .i64 n, .int .i64 r] w fun e w' => e = .returned (.int .i64 F) ∧ w = w' := by
    intro st hst
    rw [← hst] at A0 A1 A2
    have HS := Lib.hid hst
    clear hst
    rcases isR_cases hr with rfl | rfl | rfl
    · have hs : st = n * 24 / 1000 := by rw [HS.out]; unfold at0; rw [if_neg (by decide)]
      clear HS hr
      go_enter Try.func60, Try.ntmps60
      go_wp2_with fail
      go_loopg [5] ((F - st).toNat + 1) (fun kx s5 wr => ∃ x : Int, s5 = .int .i64 x ∧ st ≤ x ∧ x ≤ F ∧ kx = (F - x).toNat + 1 ∧ w = wr)
      case atStart => exact ⟨st, by rw [hs], by omega, A1, rfl, rfl⟩
      case round =>
        obtain ⟨x, rfl, hx0, hx1, rfl, rfl⟩ := hrel
        have b := BD.out
        have MM := Lib.hid (M.out x (by omega) (by omega) w)
        have SS := ST.out x (by omega)
        clear hs ST M
        by_cases hlt : x < F
        · have hd : decide (milN (x + 1) 24 ≤ n) = true := decide_eq_true (SS.2 hlt)
          clear SS
          generalize milN (x + 1) 24 = y at *
          go_wp2_with fail
          refine (MM.out).mono ?_
          rintro e w' ⟨rfl, rfl⟩
          go_wp2_with fail
          go_roundg ((F - (x + 1)).toNat + 1)
          case measure => omega
          case rel => exact ⟨x + 1, rfl, by omega, by omega, rfl, rfl⟩
        · have hd : decide (milN (x + 1) 24 ≤ n) = false := decide_eq_false (fun c => hlt (SS.1 c))
          clear SS
          obtain rfl : x = F := by omega
          generalize milN (x + 1) 24 = y at *
          go_wp2_with fail
          refine (MM.out).mono ?_
          rintro e w' ⟨rfl, rfl⟩
          go_wp2_with fail
          go_ret
          exact ⟨rfl, rfl⟩
    
    · have hs : st = n * 25 / 1000 := by rw [HS.out]; unfold at0; rw [if_neg (by decide)]
      clear HS hr
      go_enter Try.func60, Try.ntmps60
      go_wp2_with fail
      go_loopg [5] ((F - st).toNat + 1) (fun kx s5 wr => ∃ x : Int, s5 = .int .i64 x ∧ st ≤ x ∧ x ≤ F ∧ kx = (F - x).toNat + 1 ∧ w = wr)
      case atStart => exact ⟨st, by rw [hs], by omega, A1, rfl, rfl⟩
      case round =>
        obtain ⟨x, rfl, hx0, hx1, rfl, rfl⟩ := hrel
        have b := BD.out
        have MM := Lib.hid (M.out x (by omega) (by omega) w)
        have SS := ST.out x (by omega)
        clear hs ST M
        by_cases hlt : x < F
        · have hd : decide (milN (x + 1) 25 ≤ n) = true := decide_eq_true (SS.2 hlt)
          clear SS
          generalize milN (x + 1) 25 = y at *
          go_wp2_with fail
          refine (MM.out).mono ?_
          rintro e w' ⟨rfl, rfl⟩
          go_wp2_with fail
          go_roundg ((F - (x + 1)).toNat + 1)
          case measure => omega
          case rel => exact ⟨x + 1, rfl, by omega, by omega, rfl, rfl⟩
        · have hd : decide (milN (x + 1) 25 ≤ n) = false := decide_eq_false (fun c => hlt (SS.1 c))
          clear SS
          obtain rfl : x = F := by omega
          generalize milN (x + 1) 25 = y at *
          go_wp2_with fail
          refine (MM.out).mono ?_
          rintro e w' ⟨rfl, rfl⟩
          go_wp2_with fail
          go_ret
          exact ⟨rfl, rfl⟩
    
    · have hs : st = n * 30 / 1001 := by rw [HS.out]; unfold at0; rw [if_pos rfl]
      clear HS hr
      go_enter Try.func60, Try.ntmps60
      go_wp2_with fail
      go_loopg [5] ((F - st).toNat + 1) (fun kx s5 wr => ∃ x : Int, s5 = .int .i64 x ∧ st ≤ x ∧ x ≤ F ∧ kx = (F - x).toNat + 1 ∧ w = wr)
      case atStart => exact ⟨st, by rw [hs], by omega, A1, rfl, rfl⟩
      case round =>
        obtain ⟨x, rfl, hx0, hx1, rfl, rfl⟩ := hrel
        have b := BD.out
        have MM := Lib.hid (M.out x (by omega) (by omega) w)
        have SS := ST.out x (by omega)
        clear hs ST M
        by_cases hlt : x < F
        · have hd : decide (milN (x + 1) 30 ≤ n) = true := decide_eq_true (SS.2 hlt)
          clear SS
          generalize milN (x + 1) 30 = y at *
          go_wp2_with fail
          refine (MM.out).mono ?_
          rintro e w' ⟨rfl, rfl⟩
          go_wp2_with fail
          go_roundg ((F - (x + 1)).toNat + 1)
          case measure => omega
          case rel => exact ⟨x + 1, rfl, by omega, by omega, rfl, rfl⟩
        · have hd : decide (milN (x + 1) 30 ≤ n) = false := decide_eq_false (fun c => hlt (SS.1 c))
          clear SS
          obtain rfl : x = F := by omega
          generalize milN (x + 1) 30 = y at *
          go_wp2_with fail
          refine (MM.out).mono ?_
          rintro e w' ⟨rfl, rfl⟩
          go_wp2_with fail
          go_ret
          exact ⟨rfl, rfl⟩
  exact main _ rfl
end Go.Proofs.Ytecnhbgkkfcipaa.Tc
