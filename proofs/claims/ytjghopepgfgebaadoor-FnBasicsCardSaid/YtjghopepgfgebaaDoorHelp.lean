/-
  The law's own helpers: r8Long, r8Abs, r8At, r8Wide, and r8Same at equal lists.
-/
import Derived.Test.YtjghopepgfgebaaDoorSrc
namespace Go.Proofs.YtjghopepgfgebaaDoor
open Go.RowKit

set_option maxHeartbeats 400000 in
theorem r8Long_no (a b : Option Addr) (n m ca cb : Nat) (w : World) (hn : n ≤ 1048576) (hm : m ≤ 1048576) :
    Calls Tryd.prog 23 #[.slice a n ca, .slice b m cb] w fun e w' => e = .returned (.bool false) ∧ w = w' := by
  have h1 : decide ((1048576 : Int) < (n : Int)) = false := by simp; omega
  have h2 : decide ((1048576 : Int) < (m : Int)) = false := by simp; omega
  go_enter Tryd.func23, Tryd.ntmps23
  go_wp2_with fail
  go_ret
  exact ⟨rfl, rfl⟩
set_option maxHeartbeats 400000 in
theorem r8Long_yes (a b : Option Addr) (n m ca cb : Nat) (w : World) (h : 1048576 < n ∨ 1048576 < m) :
    Calls Tryd.prog 23 #[.slice a n ca, .slice b m cb] w fun e w' => e = .returned (.bool true) ∧ w = w' := by
  by_cases hn : 1048576 < n
  · have h1 : decide ((1048576 : Int) < (n : Int)) = true := by simp; omega
    go_enter Tryd.func23, Tryd.ntmps23
    go_wp2_with fail
    go_ret
    exact ⟨rfl, rfl⟩
  · have h1 : decide ((1048576 : Int) < (n : Int)) = false := by simp; omega
    have h2 : decide ((1048576 : Int) < (m : Int)) = true := by simp; omega
    clear h hn
    go_enter Tryd.func23, Tryd.ntmps23
    go_wp2_with fail
    go_ret
    exact ⟨rfl, rfl⟩

set_option maxHeartbeats 400000 in
theorem r8Abs_any (n : Int) (w : World) (h0 : -1000000000000000000 ≤ n) (h1 : n ≤ 1000000000000000000) :
    Calls Tryd.prog 27 #[.int .i64 n] w fun e w' => (∃ r : Int, e = .returned (.int .i64 r) ∧ (r = n ∨ r = -n) ∧ 0 ≤ r) ∧ w = w' := by
  by_cases h : n ≤ -n
  · go_enter Tryd.func27, Tryd.ntmps27
    go_wp2_with fail
    go_ret
    exact ⟨⟨_, rfl, by omega, by omega⟩, rfl⟩
  · go_enter Tryd.func27, Tryd.ntmps27
    go_wp2_with fail
    go_ret
    exact ⟨⟨_, rfl, by omega, by omega⟩, rfl⟩

set_option maxHeartbeats 400000 in
theorem r8At_out (a : Option Addr) (n cap k : Nat) (w : World) (hk : n ≤ k) :
    Calls Tryd.prog 58 #[.slice a n cap, .int .i64 k, .int .i64 256] w fun e w' => (∃ r : Int, e = .returned (.int .i64 r) ∧ 0 ≤ r ∧ r ≤ 255) ∧ w = w' := by
  have h1 : decide ((n : Int) ≤ (k : Int)) = true := by simp; omega
  go_enter Tryd.func58, Tryd.ntmps58
  go_wp2_with fail
  go_ret
  exact ⟨⟨_, rfl, by omega, by omega⟩, rfl⟩
set_option maxHeartbeats 400000 in
theorem r8At_in (b off : Nat) (n cap k : Nat) (z : Int) (w : World) (hk : k < n) (hz : w.cell? ⟨b, off + k, none⟩ = some (.int .u8 z)) (z0 : 0 ≤ z) (z1 : z ≤ 255) :
    Calls Tryd.prog 58 #[.slice (some ⟨b, off, none⟩) n cap, .int .i64 k, .int .i64 256] w fun e w' => (∃ r : Int, e = .returned (.int .i64 r) ∧ 0 ≤ r ∧ r ≤ 255) ∧ w = w' := by
  have h1 : decide ((n : Int) ≤ (k : Int)) = false := by simp; omega
  go_enter Tryd.func58, Tryd.ntmps58
  go_wp2_with fail
  go_ret
  exact ⟨⟨_, rfl, by omega, by omega⟩, rfl⟩
theorem r8At_any {v : Value} {zs : List Int} {w : World} (h : BytesIn w v zs) (hn : zs.length ≤ 1048576) (k : Nat) (hk : k ≤ 100) :
    Calls Tryd.prog 58 #[v, .int .i64 k, .int .i64 256] w fun e w' => (∃ r : Int, e = .returned (.int .i64 r) ∧ 0 ≤ r ∧ r ≤ 255) ∧ w = w' := by
  rcases h with ⟨a, cap, rfl, rfl⟩ | ⟨b, off, cap, rfl, hl, hc⟩
  · exact r8At_out a 0 cap k w (by omega)
  · by_cases c : k < zs.length
    · exact r8At_in b off _ cap k _ w c (hc k c).1 (hc k c).2.1 (hc k c).2.2
    · exact r8At_out _ _ cap k w (by omega)

set_option maxHeartbeats 400000 in
theorem r8Wide_any {v : Value} {zs : List Int} {w : World} (h : BytesIn w v zs) (hn : zs.length ≤ 1048576) (k : Nat) (hk : k ≤ 90) (m : Int) (m0 : 1 ≤ m) (m1 : m ≤ 65536) :
    Calls Tryd.prog 28 #[v, .int .i64 k, .int .i64 m] w fun e w' => (∃ r : Int, e = .returned (.int .i64 r) ∧ 0 ≤ r ∧ r < m) ∧ w = w' := by
  have H := Lib.hid h
  clear h
  have hm : (m == 0) = false := by simp; omega
  go_enter Tryd.func28, Tryd.ntmps28
  go_wp2_with fail
  refine (r8At_any H.out hn k (by omega)).mono ?_
  rintro e w' ⟨⟨r, rfl, r0, r1⟩, rfl⟩
  go_wp2_with fail
  refine (r8At_any H.out hn (k + 1) (by omega)).mono ?_
  rintro e w' ⟨⟨q, rfl, q0, q1⟩, rfl⟩
  have t0 : 0 ≤ 256 * r + q := by omega
  have t1 : 256 * r + q ≤ 65535 := by omega
  have e1 : 0 ≤ (256 * r + q) % m := Int.emod_nonneg _ (by omega)
  have e2 : (256 * r + q) % m < m := Int.emod_lt_of_pos _ (by omega)
  go_wp2_with fail
  go_ret
  exact ⟨⟨_, rfl, by omega, by omega⟩, rfl⟩

set_option maxHeartbeats 1000000 in
theorem r8Same_full (g h ca cb : Nat) (zs : List Int) (w : World) (hb : zs.length ≤ 1048576)
    (hg : ∀ j, (hj : j < zs.length) → w.cell? ⟨g, j, none⟩ = some (.int .i64 zs[j])) (hh : ∀ j, (hj : j < zs.length) → w.cell? ⟨h, j, none⟩ = some (.int .i64 zs[j])) :
    Calls Tryd.prog 34 #[.slice (some ⟨g, 0, none⟩) zs.length ca, .slice (some ⟨h, 0, none⟩) zs.length cb] w fun e w' => e = .returned (.bool true) ∧ ∃ q, w' = w.drewN q := by
  have HG := Lib.hid hg
  have HH := Lib.hid hh
  clear hg hh
  go_enter Tryd.func34, Tryd.ntmps34
  go_wp2_with fail
  go_loopw [5] (fun i wr => ∃ (j q : Nat), i = .int .i64 (j : Int) ∧ j ≤ zs.length ∧ wr = w.drewN q) (fun i _ => zs.length - (intOf i).toNat)
  case atStart => exact ⟨0, 0, rfl, Nat.zero_le _, rfl⟩
  case round =>
    obtain ⟨j, q, rfl, hj, rfl⟩ := hrel
    by_cases hlt : j < zs.length
    · have c1 := HG.out j hlt
      have c2 := HH.out j hlt
      generalize zs[j] = z at *
      go_wp2_with fail
      go_quiet (fail)
      go_wp2_with fail
      go_roundw
      case rel => exact ⟨j + 1, _, by go_num, by omega, rfl⟩
      case measure => (simp [intOf] <;> omega)
    · go_wp2_with fail
      go_ret
      exact ⟨rfl, q, rfl⟩
end Go.Proofs.YtjghopepgfgebaaDoor
