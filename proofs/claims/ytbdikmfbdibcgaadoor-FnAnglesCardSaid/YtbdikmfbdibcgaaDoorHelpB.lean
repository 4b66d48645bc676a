/-
  The laws' own helpers on bytes: b10Long, b10At, b10Wide, b10Abs; draws of angles and values (package spec).
-/
import Derived.Test.YtbdikmfbdibcgaaDoorSrcG
namespace Go.Proofs.YtbdikmfbdibcgaaDoor
open Go.RowKit
set_option linter.unusedVariables false

set_option maxHeartbeats 400000 in
theorem b10Long_no (a : Option Addr) (n ca : Nat) (w : World) (hn : n ≤ 1048576) :
    Calls Tryd.prog 5 #[.slice a n ca] w fun e w' => e = .returned (.bool false) ∧ w = w' := by
  have h1 : decide ((1048576 : Int) < (n : Int)) = false := by simp; omega
  go_enter Tryd.func5, Tryd.ntmps5
  go_wp2_with fail
  go_ret
  exact ⟨rfl, rfl⟩
set_option maxHeartbeats 400000 in
theorem b10Long_yes (a : Option Addr) (n ca : Nat) (w : World) (hn : 1048576 < n) :
    Calls Tryd.prog 5 #[.slice a n ca] w fun e w' => e = .returned (.bool true) ∧ w = w' := by
  have h1 : decide ((1048576 : Int) < (n : Int)) = true := by simp; omega
  go_enter Tryd.func5, Tryd.ntmps5
  go_wp2_with fail
  go_ret
  exact ⟨rfl, rfl⟩
set_option maxHeartbeats 400000 in
theorem b10Abs_any (n r : Int) (w : World) (h0 : -1000000000000000000 ≤ n) (h1 : n ≤ 1000000000000000000) (hr : r = if n < 0 then -n else n) :
    Calls Tryd.prog 9 #[.int .i64 n] w fun e w' => e = .returned (.int .i64 r) ∧ w = w' := by
  by_cases h : n < 0
  · rw [if_pos h] at hr
    subst hr
    skip
    go_enter Tryd.func9, Tryd.ntmps9
    go_wp2_with fail
    go_ret
    exact ⟨rfl, rfl⟩
  · rw [if_neg h] at hr
    subst hr
    skip
    go_enter Tryd.func9, Tryd.ntmps9
    go_wp2_with fail
    go_ret
    exact ⟨rfl, rfl⟩

set_option maxHeartbeats 400000 in
theorem b10At_out (a : Option Addr) (n cap k : Nat) (m : Int) (m0 : 2 ≤ m) (m1 : m ≤ 65536) (w : World) (hk : n ≤ k) (hk' : k ≤ 100) :
    Calls Tryd.prog 15 #[.slice a n cap, .int .i64 k, .int .i64 m] w fun e w' => (∃ r : Int, e = .returned (.int .i64 r) ∧ 0 ≤ r ∧ r < m) ∧ w = w' := by
  have h1 : decide ((k : Int) < (n : Int)) = false := by simp; omega
  have hm : (m == 0) = false := by simp; omega
  have t0 : 0 ≤ (k : Int) * 37 + 11 := by omega
  have e1 : 0 ≤ ((k : Int) * 37 + 11) % m := Int.emod_nonneg _ (by omega)
  have e2 : ((k : Int) * 37 + 11) % m < m := Int.emod_lt_of_pos _ (by omega)
  go_enter Tryd.func15, Tryd.ntmps15
  go_wp2_with fail
  go_ret
  exact ⟨⟨_, rfl, by omega, by omega⟩, rfl⟩
set_option maxHeartbeats 400000 in
theorem b10At_in (b off : Nat) (n cap k : Nat) (m : Int) (m0 : 2 ≤ m) (m1 : m ≤ 65536) (z : Int) (w : World) (hk : k < n) (hz : w.cell? ⟨b, off + k, none⟩ = some (.int .u8 z)) (z0 : 0 ≤ z) (z1 : z ≤ 255) :
    Calls Tryd.prog 15 #[.slice (some ⟨b, off, none⟩) n cap, .int .i64 k, .int .i64 m] w fun e w' => (∃ r : Int, e = .returned (.int .i64 r) ∧ 0 ≤ r ∧ r < m) ∧ w = w' := by
  have h1 : decide ((k : Int) < (n : Int)) = true := by simp; omega
  have hm : (m == 0) = false := by simp; omega
  have e1 : 0 ≤ z % m := Int.emod_nonneg _ (by omega)
  have e2 : z % m < m := Int.emod_lt_of_pos _ (by omega)
  go_enter Tryd.func15, Tryd.ntmps15
  go_wp2_with fail
  go_ret
  exact ⟨⟨_, rfl, by omega, by omega⟩, rfl⟩
theorem b10At_any {v : Value} {zs : List Int} {w : World} (h : BytesIn w v zs) (hn : zs.length ≤ 1048576) (k : Nat) (hk : k ≤ 100) (m : Int) (m0 : 2 ≤ m) (m1 : m ≤ 65536) :
    Calls Tryd.prog 15 #[v, .int .i64 k, .int .i64 m] w fun e w' => (∃ r : Int, e = .returned (.int .i64 r) ∧ 0 ≤ r ∧ r < m) ∧ w = w' := by
  rcases h with ⟨a, cap, rfl, rfl⟩ | ⟨b, off, cap, rfl, hl, hc⟩
  · exact b10At_out a 0 cap k m m0 m1 w (by omega) hk
  · by_cases c : k < zs.length
    · exact b10At_in b off _ cap k m m0 m1 _ w c (hc k c).1 (hc k c).2.1 (hc k c).2.2
    · exact b10At_out _ _ cap k m m0 m1 w (by omega) hk
set_option maxHeartbeats 400000 in
theorem b10Wide_any {v : Value} {zs : List Int} {w : World} (h : BytesIn w v zs) (hn : zs.length ≤ 1048576) (k : Nat) (hk : k ≤ 90) (m : Int) (m0 : 1 ≤ m) (m1 : m ≤ 16777216) :
    Calls Tryd.prog 6 #[v, .int .i64 k, .int .i64 m] w fun e w' => (∃ r : Int, e = .returned (.int .i64 r) ∧ 0 ≤ r ∧ r < m) ∧ w = w' := by
  have H := Lib.hid h
  clear h
  have hm : (m == 0) = false := by simp; omega
  go_enter Tryd.func6, Tryd.ntmps6
  go_wp2_with fail
  refine (b10At_any H.out hn k (by omega) 256 (by omega) (by omega)).mono ?_
  rintro e w' ⟨⟨r, rfl, r0, r1⟩, rfl⟩
  go_wp2_with fail
  refine (b10At_any H.out hn (k + 1) (by omega) 256 (by omega) (by omega)).mono ?_
  rintro e w' ⟨⟨q, rfl, q0, q1⟩, rfl⟩
  go_wp2_with fail
  refine (b10At_any H.out hn (k + 2) (by omega) 256 (by omega) (by omega)).mono ?_
  rintro e w' ⟨⟨p, rfl, p0, p1⟩, rfl⟩
  have t0 : 0 ≤ 65536 * r + 256 * q + p := by omega
  have t1 : 65536 * r + 256 * q + p ≤ 16777215 := by omega
  have e1 : 0 ≤ (65536 * r + 256 * q + p) % m := Int.emod_nonneg _ (by omega)
  have e2 : (65536 * r + 256 * q + p) % m < m := Int.emod_lt_of_pos _ (by omega)
  go_wp2_with fail
  go_ret
  exact ⟨⟨_, rfl, by omega, by omega⟩, rfl⟩
end Go.Proofs.YtbdikmfbdibcgaaDoor
