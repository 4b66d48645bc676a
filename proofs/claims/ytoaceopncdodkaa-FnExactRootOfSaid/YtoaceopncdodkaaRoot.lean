/-
  Square roots: the contracts of RootOf (package impl) and of l01Root, RootOf (package spec): each returns the root that is rounded down.
-/
import Derived.Test.YtoaceopncdodkaaBase
import Derived.Test.YtoaceopncdodkaaRootMath
import Derived.Test.YtoaceopncdodkaaShelf
namespace Go.Proofs.Ytoaceopncdodkaa
open Go.RowKit

/-- The call returned the root of n, and has made at most new blocks. -/
def RootPost (n : Int) (w : World) (e : Ending) (w' : World) : Prop := ∃ r : Int, IsRoot n r ∧ e = .returned (.int .i64 r) ∧ w = w'

set_option maxHeartbeats 800000 in
theorem implRoot_any (n : Int) (w : World) (h1 : n ≤ 9223372036854775807) :
    Calls Try.prog 13 #[.int .i64 n] w (RootPost n w) := by
  by_cases h0 : n ≤ 0
  · go_enter Try.func13, Try.ntmps13
    go_wp2_with fail
    go_ret
    refine ⟨0, ?_, rfl, rfl⟩
    by_cases c : n < 0
    · exact .inl ⟨c, rfl⟩
    · exact .inr (by omega)
  · obtain ⟨m, rfl⟩ := Int.eq_ofNat_of_zero_le (show 0 ≤ n by omega)
    have hm0 : 1 ≤ m := by omega
    have hm1 : m ≤ 9223372036854775807 := by omega
    have h0' : decide ((m : Int) ≤ 0) = false := by simpa using h0
    have h0'' : (m == 0) = false := by simp; omega
    obtain ⟨b1, b2⟩ := bitLen_bd m (by omega)
    have hL1 : 1 ≤ Lib.bitLen m := by
      by_cases c : 1 ≤ Lib.bitLen m
      · exact c
      · have : Lib.bitLen m = 0 := by omega
        rw [this] at b1; simp at b1; omega
    have hs := RootInv.start m _ hL1 b2 b1
    generalize hL : Lib.bitLen m = L at *
    have HL := Lib.hid hL
    have HS := Lib.hid hs
    clear hL hs b1 h0
    go_enter Try.func13, Try.ntmps13
    go_wp2_with fail
    refine (Try.bits_Len64 _ _ (by omega) (by omega)).mono ?_
    rintro e w' ⟨rfl, rfl⟩
    rw [show ((m : Int)).toNat = m from Int.toNat_natCast m, HL.out]
    go_wp2_with fail
    go_loop [3, 4] (fun t i => ∃ k r : Nat, i = .int .i64 ((k : Int) - 1) ∧ t = .int .i64 r ∧ k ≤ 32 ∧ RootInv m r k) (fun _ i => (intOf i + 1).toNat)
    case atStart => exact ⟨(L - 1) / 2 + 1, 0, by congr 1; omega, rfl, by omega, HS.out⟩
    case round =>
      obtain ⟨k, r, rfl, rfl, hk, hinv⟩ := hrel
      by_cases hz : 1 ≤ k
      · obtain ⟨j, rfl⟩ : ∃ j, k = j + 1 := ⟨k - 1, by omega⟩
        have hf := hinv.fits
        have hp := Nat.two_pow_pos j
        have e2 := two_succ j
        have hx1 : 1 ≤ r + 2 ^ j := by omega
        have hx2 : r + 2 ^ j ≤ 4294967296 := by omega
        have hor := hinv.tried
        have hpw : wrap64 ((2 : Int) ^ j) = (2 : Int) ^ j := by
          have hc : ((2 : Int) ^ j) = ((2 ^ j : Nat) : Int) := by simp
          rw [hc]
          exact IntWalk.wrap64_in _ (by omega)
        have hyes := @RootInv.yes m r j hinv
        have hno := @RootInv.no m r j hinv
        have hsq := le_div_sq (r + 2 ^ j) m hx1
        generalize hx : r + 2 ^ j = x at *
        have HY := Lib.hid hyes
        have HN := Lib.hid hno
        have HQ := Lib.hid hsq
        have HI := Lib.hid hinv
        clear hyes hno hsq hinv hf hp e2 hx
        have hdl : m / x ≤ m := Nat.div_le_self m x
        have hq : wrap64 ((m : Int) / (x : Int)) = ((m / x : Nat) : Int) := by
          rw [show (m : Int) / (x : Int) = ((m / x : Nat) : Int) from rfl]
          generalize m / x = d at *
          exact IntWalk.wrap64_in _ (by omega)
        by_cases c : x ≤ m / x
        · have c2 : decide ((x : Int) ≤ ((m / x : Nat) : Int)) = true := by simpa using Int.ofNat_le.2 c
          generalize m / x = d at *
          go_wp2_with fail
          go_round
          case rel => exact ⟨j, x, rfl, rfl, by omega, HY.out (HQ.out.1 c)⟩
          case measure => (simp [intOf] <;> omega)
        · have c2 : decide ((x : Int) ≤ ((m / x : Nat) : Int)) = false := by
            rw [decide_eq_false_iff_not]; intro h; exact c (Int.ofNat_le.1 h)
          have c3 : m < x * x := by
            have := mt HQ.out.2 c
            omega
          have C := Lib.hid c
          have C3 := Lib.hid c3
          clear c c3
          generalize m / x = d at *
          go_wp2_with fail
          go_round
          case rel => exact ⟨j, r, rfl, rfl, by omega, HN.out C3.out⟩
          case measure => (simp [intOf] <;> omega)
      · obtain rfl : k = 0 := by omega
        clear hz
        have hr := hinv.done
        have HR := Lib.hid hr
        clear hr hinv
        go_wp2_with fail
        go_ret
        exact ⟨r, HR.out, rfl, rfl⟩

/-- What holds at the head of the search by halves. -/
structure HalfInv (n lo hi : Int) : Prop where
  ord : lo ≤ hi
  low0 : 0 ≤ lo
  top : hi ≤ 3037000499
  low : lo = 0 ∨ lo * lo ≤ n
  high : n < (hi + 1) * (hi + 1)

theorem sq_top (m : Int) (h0 : 0 ≤ m) (h1 : m ≤ 3037000499) : 0 ≤ m * m ∧ m * m ≤ 9223372030926249001 := by
  have a : m * m ≤ 3037000499 * 3037000499 := Int.mul_le_mul h1 h1 h0 (by omega)
  exact ⟨Int.mul_nonneg h0 h0, by omega⟩
theorem HalfInv.done {n lo : Int} (h : HalfInv n lo lo) : IsRoot n lo := by
  by_cases c : n < 0
  · refine .inl ⟨c, ?_⟩
    rcases h.low with h1 | h1
    · exact h1
    · have := Int.mul_nonneg h.low0 h.low0
      omega
  · refine .inr ⟨by omega, h.low0, ?_, h.high⟩
    rcases h.low with h1 | h1
    · rw [h1]; omega
    · exact h1

set_option maxHeartbeats 800000 in
theorem l01Root_any (n : Int) (w : World) (h1 : n ≤ 9223372036854775807) :
    Calls Try.prog 26 #[.int .i64 n] w (RootPost n w) := by
  go_enter Try.func26, Try.ntmps26
  go_wp2_with fail
  go_loop [3, 4] (fun a b => ∃ lo hi : Int, a = .int .i64 lo ∧ b = .int .i64 hi ∧ HalfInv n lo hi) (fun a b => (intOf b - intOf a).toNat)
  case atStart => exact ⟨0, 3037000499, rfl, rfl, by omega, by omega, by omega, .inl rfl, by omega⟩
  case round =>
    obtain ⟨lo, hi, rfl, rfl, hinv⟩ := hrel
    have g1 := hinv.ord
    have g2 := hinv.low0
    have g3 := hinv.top
    by_cases hz : lo < hi
    · have m1 : lo < (lo + hi + 1) / 2 := by omega
      have m2 : (lo + hi + 1) / 2 ≤ hi := by omega
      obtain ⟨s1, s2⟩ := sq_top ((lo + hi + 1) / 2) (by omega) (by omega)
      by_cases c : (lo + hi + 1) / 2 * ((lo + hi + 1) / 2) ≤ n
      · have hn : HalfInv n ((lo + hi + 1) / 2) hi := ⟨by omega, by omega, g3, .inr c, hinv.high⟩
        have HN := Lib.hid hn
        clear hn hinv
        go_wp2_with fail
        go_round
        case rel => exact ⟨_, hi, rfl, rfl, HN.out⟩
        case measure => (simp [intOf] <;> omega)
      · have hn : HalfInv n lo ((lo + hi + 1) / 2 - 1) := ⟨by omega, g2, by omega, hinv.low, by rw [show (lo + hi + 1) / 2 - 1 + 1 = (lo + hi + 1) / 2 by omega]; omega⟩
        have HN := Lib.hid hn
        clear hn hinv
        go_wp2_with fail
        go_round
        case rel => exact ⟨lo, _, rfl, rfl, HN.out⟩
        case measure => (simp [intOf] <;> omega)
    · obtain rfl : lo = hi := by omega
      have HR := Lib.hid hinv.done
      clear hinv
      go_wp2_with fail
      go_ret
      exact ⟨lo, HR.out, rfl, rfl⟩

set_option maxHeartbeats 400000 in
theorem specRoot_any (n : Int) (w : World) (h1 : n ≤ 9223372036854775807) :
    Calls Try.prog 12 #[.int .i64 n] w (RootPost n w) := by
  go_enter Try.func12, Try.ntmps12
  go_wp2_with fail
  refine (l01Root_any _ _ h1).mono ?_
  rintro e w' ⟨r, hr, rfl, rfl⟩
  have HR := Lib.hid hr
  clear hr
  go_wp2_with fail
  go_ret
  exact ⟨r, HR.out, rfl, rfl⟩

end Go.Proofs.Ytoaceopncdodkaa
