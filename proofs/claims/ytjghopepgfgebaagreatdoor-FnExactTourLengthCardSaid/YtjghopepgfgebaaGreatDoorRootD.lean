/-
  Square roots: the contract of RootOf (package impl).
-/
import Derived.Test.YtjghopepgfgebaaGreatDoorCore
import Derived.Test.YtjghopepgfgebaaGreatDoorRootMath
import Derived.Test.YtjghopepgfgebaaGreatDoorShelf
namespace Go.Proofs.YtjghopepgfgebaaGreatDoor
open Go.RowKit

/-- The call returned the root of n, and has made at most new blocks. -/
def RootPost (n : Int) (w : World) (e : Ending) (w' : World) : Prop := ∃ r : Int, IsRoot n r ∧ e = .returned (.int .i64 r) ∧ w = w'

set_option maxHeartbeats 800000 in
theorem implRoot_any (n : Int) (w : World) (h1 : n ≤ 9223372036854775807) :
    Calls Tryz.prog 85 #[.int .i64 n] w (RootPost n w) := by
  by_cases h0 : n ≤ 0
  · go_enter Tryz.func85, Tryz.ntmps85
    go_wp2_with fail
    go_ret
    refine ⟨0, ?_, rfl, rfl⟩
    by_cases c : n < 0
    · exact .inl ⟨c, rfl⟩
    · exact .inr (by omega)
  · obtain ⟨m, rfl⟩ := Int.eq_ofNat_of_zero_le (show 0 ≤ n by omega)
    have hm0 : 1 ≤ m := by omega
    have hm1 : m ≤ 9223372036854775807 := by omega
    have h0' : decide ((m : Int) ≤ 0) = false := by simpa using h0
    have h0'' : (m == 0) = false := by simp; omega
    obtain ⟨b1, b2⟩ := bitLen_bd m (by omega)
    have hL1 : 1 ≤ Lib.bitLen m := by
      by_cases c : 1 ≤ Lib.bitLen m
      · exact c
      · have : Lib.bitLen m = 0 := by omega
        rw [this] at b1; simp at b1; omega
    have hs := RootInv.start m _ hL1 b2 b1
    generalize hL : Lib.bitLen m = L at *
    have HL := Lib.hid hL
    have HS := Lib.hid hs
    clear hL hs b1 h0
    go_enter Tryz.func85, Tryz.ntmps85
    go_wp2_with fail
    refine (Tryz.bits_Len64 _ _ (by omega) (by omega)).mono ?_
    rintro e w' ⟨rfl, rfl⟩
    rw [show ((m : Int)).toNat = m from Int.toNat_natCast m, HL.out]
    go_wp2_with fail
    go_loop [3, 4] (fun t i => ∃ k r : Nat, i = .int .i64 ((k : Int) - 1) ∧ t = .int .i64 r ∧ k ≤ 32 ∧ RootInv m r k) (fun _ i => (intOf i + 1).toNat)
    case atStart => exact ⟨(L - 1) / 2 + 1, 0, by congr 1; omega, rfl, by omega, HS.out⟩
    case round =>
      obtain ⟨k, r, rfl, rfl, hk, hinv⟩ := hrel
      by_cases hz : 1 ≤ k
      · obtain ⟨j, rfl⟩ : ∃ j, k = j + 1 := ⟨k - 1, by omega⟩
        have hf := hinv.fits
        have hp := Nat.two_pow_pos j
        have e2 := two_succ j
        have hx1 : 1 ≤ r + 2 ^ j := by omega
        have hx2 : r + 2 ^ j ≤ 4294967296 := by omega
        have hor := hinv.tried
        have hpw : wrap64 ((2 : Int) ^ j) = (2 : Int) ^ j := by
          have hc : ((2 : Int) ^ j) = ((2 ^ j : Nat) : Int) := by simp
          rw [hc]
          exact IntWalk.wrap64_in _ (by omega)
        have hyes := @RootInv.yes m r j hinv
        have hno := @RootInv.no m r j hinv
        have hsq := le_div_sq (r + 2 ^ j) m hx1
        generalize hx : r + 2 ^ j = x at *
        have HY := Lib.hid hyes
        have HN := Lib.hid hno
        have HQ := Lib.hid hsq
        have HI := Lib.hid hinv
        clear hyes hno hsq hinv hf hp e2 hx
        have hdl : m / x ≤ m := Nat.div_le_self m x
        have hq : wrap64 ((m : Int) / (x : Int)) = ((m / x : Nat) : Int) := by
          rw [show (m : Int) / (x : Int) = ((m / x : Nat) : Int) from rfl]
          generalize m / x = d at *
          exact IntWalk.wrap64_in _ (by omega)
        by_cases c : x ≤ m / x
        · have c2 : decide ((x : Int) ≤ ((m / x : Nat) : Int)) = true := by simpa using Int.ofNat_le.2 c
          generalize m / x = d at *
          go_wp2_with fail
          go_round
          case rel => exact ⟨j, x, rfl, rfl, by omega, HY.out (HQ.out.1 c)⟩
          case measure => (simp [intOf] <;> omega)
        · have c2 : decide ((x : Int) ≤ ((m / x : Nat) : Int)) = false := by
            rw [decide_eq_false_iff_not]; intro h; exact c (Int.ofNat_le.1 h)
          have c3 : m < x * x := by
            have := mt HQ.out.2 c
            omega
          have C := Lib.hid c
          have C3 := Lib.hid c3
          clear c c3
          generalize m / x = d at *
          go_wp2_with fail
          go_round
          case rel => exact ⟨j, r, rfl, rfl, by omega, HN.out C3.out⟩
          case measure => (simp [intOf] <;> omega)
      · obtain rfl : k = 0 := by omega
        clear hz
        have hr := hinv.done
        have HR := Lib.hid hr
        clear hr hinv
        go_wp2_with fail
        go_ret
        exact ⟨r, HR.out, rfl, rfl⟩

end Go.Proofs.YtjghopepgfgebaaGreatDoor
