/-
  The law's own helpers: r8Long, r8Abs, r8At, r8Wide, and r8Same at equal lists.
-/
import Derived.Test.YtcehiagpknmmeaaDoorSrcG
namespace Go.Proofs.YtcehiagpknmmeaaDoor
open Go.RowKit

set_option maxHeartbeats 400000 in
theorem r8Long_no (a b : Option Addr) (n m ca cb : Nat) (w : World) (hn : n ≤ 1048576) (hm : m ≤ 1048576) :
    Calls Tryd.prog 4 #[.slice a n ca, .slice b m cb] w fun e w' => e = .returned (.bool false) ∧ w = w' := by
  have h1 : decide ((1048576 : Int) < (n : Int)) = false := by simp; omega
  have h2 : decide ((1048576 : Int) < (m : Int)) = false := by simp; omega
  go_enter Tryd.func4, Tryd.ntmps4
  go_wp2_with fail
  go_ret
  exact ⟨rfl, rfl⟩
set_option maxHeartbeats 400000 in
theorem r8Long_yes (a b : Option Addr) (n m ca cb : Nat) (w : World) (h : 1048576 < n ∨ 1048576 < m) :
    Calls Tryd.prog 4 #[.slice a n ca, .slice b m cb] w fun e w' => e = .returned (.bool true) ∧ w = w' := by
  by_cases hn : 1048576 < n
  · have h1 : decide ((1048576 : Int) < (n : Int)) = true := by simp; omega
    go_enter Tryd.func4, Tryd.ntmps4
    go_wp2_with fail
    go_ret
    exact ⟨rfl, rfl⟩
  · have h1 : decide ((1048576 : Int) < (n : Int)) = false := by simp; omega
    have h2 : decide ((1048576 : Int) < (m : Int)) = true := by simp; omega
    clear h hn
    go_enter Tryd.func4, Tryd.ntmps4
    go_wp2_with fail
    go_ret
    exact ⟨rfl, rfl⟩

set_option maxHeartbeats 400000 in
theorem r8At_out (a : Option Addr) (n cap k : Nat) (w : World) (hk : n ≤ k) :
    Calls Tryd.prog 15 #[.slice a n cap, .int .i64 k, .int .i64 256] w fun e w' => (∃ r : Int, e = .returned (.int .i64 r) ∧ 0 ≤ r ∧ r ≤ 255) ∧ w = w' := by
  have h1 : decide ((n : Int) ≤ (k : Int)) = true := by simp; omega
  go_enter Tryd.func15, Tryd.ntmps15
  go_wp2_with fail
  go_ret
  exact ⟨⟨_, rfl, by omega, by omega⟩, rfl⟩
set_option maxHeartbeats 400000 in
theorem r8At_in (b off : Nat) (n cap k : Nat) (z : Int) (w : World) (hk : k < n) (hz : w.cell? ⟨b, off + k, none⟩ = some (.int .u8 z)) (z0 : 0 ≤ z) (z1 : z ≤ 255) :
    Calls Tryd.prog 15 #[.slice (some ⟨b, off, none⟩) n cap, .int .i64 k, .int .i64 256] w fun e w' => (∃ r : Int, e = .returned (.int .i64 r) ∧ 0 ≤ r ∧ r ≤ 255) ∧ w = w' := by
  have h1 : decide ((n : Int) ≤ (k : Int)) = false := by simp; omega
  go_enter Tryd.func15, Tryd.ntmps15
  go_wp2_with fail
  go_ret
  exact ⟨⟨_, rfl, by omega, by omega⟩, rfl⟩
theorem r8At_any {v : Value} {zs : List Int} {w : World} (h : BytesIn w v zs) (hn : zs.length ≤ 1048576) (k : Nat) (hk : k ≤ 100) :
    Calls Tryd.prog 15 #[v, .int .i64 k, .int .i64 256] w fun e w' => (∃ r : Int, e = .returned (.int .i64 r) ∧ 0 ≤ r ∧ r ≤ 255) ∧ w = w' := by
  rcases h with ⟨a, cap, rfl, rfl⟩ | ⟨b, off, cap, rfl, hl, hc⟩
  · exact r8At_out a 0 cap k w (by omega)
  · by_cases c : k < zs.length
    · exact r8At_in b off _ cap k _ w c (hc k c).1 (hc k c).2.1 (hc k c).2.2
    · exact r8At_out _ _ cap k w (by omega)

set_option maxHeartbeats 400000 in
theorem r8Wide_any {v : Value} {zs : List Int} {w : World} (h : BytesIn w v zs) (hn : zs.length ≤ 1048576) (k : Nat) (hk : k ≤ 90) (m : Int) (m0 : 1 ≤ m) (m1 : m ≤ 65536) :
    Calls Tryd.prog 6 #[v, .int .i64 k, .int .i64 m] w fun e w' => (∃ r : Int, e = .returned (.int .i64 r) ∧ 0 ≤ r ∧ r < m) ∧ w = w' := by
  have H := Lib.hid h
  clear h
  have hm : (m == 0) = false := by simp; omega
  go_enter Tryd.func6, Tryd.ntmps6
  go_wp2_with fail
  refine (r8At_any H.out hn k (by omega)).mono ?_
  rintro e w' ⟨⟨r, rfl, r0, r1⟩, rfl⟩
  go_wp2_with fail
  refine (r8At_any H.out hn (k + 1) (by omega)).mono ?_
  rintro e w' ⟨⟨q, rfl, q0, q1⟩, rfl⟩
  have t0 : 0 ≤ 256 * r + q := by omega
  have t1 : 256 * r + q ≤ 65535 := by omega
  have e1 : 0 ≤ (256 * r + q) % m := Int.emod_nonneg _ (by omega)
  have e2 : (256 * r + q) % m < m := Int.emod_lt_of_pos _ (by omega)
  go_wp2_with fail
  go_ret
  exact ⟨⟨_, rfl, by omega, by omega⟩, rfl⟩

end Go.Proofs.YtcehiagpknmmeaaDoor
