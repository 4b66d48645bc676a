/-
  The contracts of least, greatest and within (package impl) at int and at byte.
-/
import Derived.Test.YtjghopepgfgebaaDoorCore
namespace Go.Proofs.YtjghopepgfgebaaDoor
open Go.RowKit

set_option maxHeartbeats 400000 in
theorem leastInt (first : Int) (b off n cap : Nat) (zs : List Int) (w : World) (hn : zs.length = n) (hbig : n ≤ 9223372036854775807)
    (hc : ∀ j, j < zs.length → w.cell? ⟨b, off + j, none⟩ = some (.int .i64 (zs.getD j 0))) :
    Calls Tryd.prog 126 #[.int .i64 first, .slice (some ⟨b, off, none⟩) n cap] w fun e w' => e = .returned (.int .i64 (leastI first zs)) ∧ w = w' := by
  subst hn
  go_enter Tryd.func126, Tryd.ntmps126
  go_wp2
  go_loop [0, 9] (fun t i => ∃ k : Nat, k ≤ zs.length ∧ i = .int .i64 k ∧ t = .int .i64 (leastI first (zs.take k))) (fun _ i => zs.length - (intOf i).toNat)
  case atStart => exact ⟨0, Nat.zero_le _, rfl, rfl⟩
  case round =>
    obtain ⟨k, hk, rfl, rfl⟩ := hrel
    have hcell : k < zs.length → w.cell? ⟨b, off + k, none⟩ = some (.int .i64 (zs.getD k 0)) := fun _ => hc k (by omega)
    clear hc
    go_wp2
    · have hlt : k < zs.length := by assumption
      go_round
      case rel => exact ⟨k + 1, by omega, by go_num, by rw [leastI_snoc first zs k hlt]; rfl⟩
      case measure => simp [intOf]; omega
    · have hge : ¬ k < zs.length := by assumption
      go_ret
      exact ⟨ret_int (by rw [List.take_of_length_le (by omega)]), rfl⟩

set_option maxHeartbeats 400000 in
theorem greatestInt (first : Int) (b off n cap : Nat) (zs : List Int) (w : World) (hn : zs.length = n) (hbig : n ≤ 9223372036854775807)
    (hc : ∀ j, j < zs.length → w.cell? ⟨b, off + j, none⟩ = some (.int .i64 (zs.getD j 0))) :
    Calls Tryd.prog 127 #[.int .i64 first, .slice (some ⟨b, off, none⟩) n cap] w fun e w' => e = .returned (.int .i64 (greatestI first zs)) ∧ w = w' := by
  subst hn
  go_enter Tryd.func127, Tryd.ntmps127
  go_wp2
  go_loop [0, 9] (fun t i => ∃ k : Nat, k ≤ zs.length ∧ i = .int .i64 k ∧ t = .int .i64 (greatestI first (zs.take k))) (fun _ i => zs.length - (intOf i).toNat)
  case atStart => exact ⟨0, Nat.zero_le _, rfl, rfl⟩
  case round =>
    obtain ⟨k, hk, rfl, rfl⟩ := hrel
    have hcell : k < zs.length → w.cell? ⟨b, off + k, none⟩ = some (.int .i64 (zs.getD k 0)) := fun _ => hc k (by omega)
    clear hc
    go_wp2
    · have hlt : k < zs.length := by assumption
      go_round
      case rel => exact ⟨k + 1, by omega, by go_num, by rw [greatestI_snoc first zs k hlt]; rfl⟩
      case measure => simp [intOf]; omega
    · have hge : ¬ k < zs.length := by assumption
      go_ret
      exact ⟨ret_int (by rw [List.take_of_length_le (by omega)]), rfl⟩

set_option maxHeartbeats 400000 in
theorem withinInt (lo hi : Int) (b off n cap : Nat) (zs : List Int) (w : World) (hn : zs.length = n) (hbig : n ≤ 9223372036854775807)
    (hc : ∀ j, j < zs.length → w.cell? ⟨b, off + j, none⟩ = some (.int .i64 (zs.getD j 0))) :
    Calls Tryd.prog 100 #[.int .i64 lo, .int .i64 hi, .slice (some ⟨b, off, none⟩) n cap] w fun e w' => e = .returned (.bool (inR lo hi zs)) ∧ w = w' := by
  have h1 := leastInt lo b off n cap zs w hn hbig hc
  have h2 := greatestInt hi b off n cap zs w hn hbig hc
  rw [inR_eq]
  have H1 := Lib.hid h1
  have H2 := Lib.hid h2
  clear h1 h2 hc hn
  generalize leastI lo zs = m at *
  generalize greatestI hi zs = m2 at *
  by_cases c : (m == lo) = true
  · rw [c, Bool.true_and]
    go_enter Tryd.func100, Tryd.ntmps100
    go_wp2_with fail
    refine H1.out.mono ?_
    rintro e w' ⟨rfl, rfl⟩
    go_wp2_with fail
    refine H2.out.mono ?_
    rintro e w' ⟨rfl, rfl⟩
    go_wp2_with fail
    go_ret
    exact ⟨rfl, rfl⟩
  · have c' : (m == lo) = false := by simpa using c
    rw [c', Bool.false_and]
    clear c
    go_enter Tryd.func100, Tryd.ntmps100
    go_wp2_with fail
    refine H1.out.mono ?_
    rintro e w' ⟨rfl, rfl⟩
    go_wp2_with fail
    go_ret
    exact ⟨rfl, rfl⟩

set_option maxHeartbeats 400000 in
theorem least8 (first : Int) (b off n cap : Nat) (zs : List Int) (w : World) (hn : zs.length = n) (hbig : n ≤ 9223372036854775807)
    (hc : ∀ j, j < zs.length → w.cell? ⟨b, off + j, none⟩ = some (.int .u8 (zs.getD j 0))) :
    Calls Tryd.prog 146 #[.int .u8 first, .slice (some ⟨b, off, none⟩) n cap] w fun e w' => e = .returned (.int .u8 (leastI first zs)) ∧ w = w' := by
  subst hn
  go_enter Tryd.func146, Tryd.ntmps146
  go_wp2
  go_loop [0, 9] (fun t i => ∃ k : Nat, k ≤ zs.length ∧ i = .int .i64 k ∧ t = .int .u8 (leastI first (zs.take k))) (fun _ i => zs.length - (intOf i).toNat)
  case atStart => exact ⟨0, Nat.zero_le _, rfl, rfl⟩
  case round =>
    obtain ⟨k, hk, rfl, rfl⟩ := hrel
    have hcell : k < zs.length → w.cell? ⟨b, off + k, none⟩ = some (.int .u8 (zs.getD k 0)) := fun _ => hc k (by omega)
    clear hc
    go_wp2
    · have hlt : k < zs.length := by assumption
      go_round
      case rel => exact ⟨k + 1, by omega, by go_num, by rw [leastI_snoc first zs k hlt]; rfl⟩
      case measure => simp [intOf]; omega
    · have hge : ¬ k < zs.length := by assumption
      go_ret
      exact ⟨ret_int (by rw [List.take_of_length_le (by omega)]), rfl⟩

set_option maxHeartbeats 400000 in
theorem greatest8 (first : Int) (b off n cap : Nat) (zs : List Int) (w : World) (hn : zs.length = n) (hbig : n ≤ 9223372036854775807)
    (hc : ∀ j, j < zs.length → w.cell? ⟨b, off + j, none⟩ = some (.int .u8 (zs.getD j 0))) :
    Calls Tryd.prog 147 #[.int .u8 first, .slice (some ⟨b, off, none⟩) n cap] w fun e w' => e = .returned (.int .u8 (greatestI first zs)) ∧ w = w' := by
  subst hn
  go_enter Tryd.func147, Tryd.ntmps147
  go_wp2
  go_loop [0, 9] (fun t i => ∃ k : Nat, k ≤ zs.length ∧ i = .int .i64 k ∧ t = .int .u8 (greatestI first (zs.take k))) (fun _ i => zs.length - (intOf i).toNat)
  case atStart => exact ⟨0, Nat.zero_le _, rfl, rfl⟩
  case round =>
    obtain ⟨k, hk, rfl, rfl⟩ := hrel
    have hcell : k < zs.length → w.cell? ⟨b, off + k, none⟩ = some (.int .u8 (zs.getD k 0)) := fun _ => hc k (by omega)
    clear hc
    go_wp2
    · have hlt : k < zs.length := by assumption
      go_round
      case rel => exact ⟨k + 1, by omega, by go_num, by rw [greatestI_snoc first zs k hlt]; rfl⟩
      case measure => simp [intOf]; omega
    · have hge : ¬ k < zs.length := by assumption
      go_ret
      exact ⟨ret_int (by rw [List.take_of_length_le (by omega)]), rfl⟩

set_option maxHeartbeats 400000 in
theorem within8 (lo hi : Int) (b off n cap : Nat) (zs : List Int) (w : World) (hn : zs.length = n) (hbig : n ≤ 9223372036854775807)
    (hc : ∀ j, j < zs.length → w.cell? ⟨b, off + j, none⟩ = some (.int .u8 (zs.getD j 0))) :
    Calls Tryd.prog 128 #[.int .u8 lo, .int .u8 hi, .slice (some ⟨b, off, none⟩) n cap] w fun e w' => e = .returned (.bool (inR lo hi zs)) ∧ w = w' := by
  have h1 := least8 lo b off n cap zs w hn hbig hc
  have h2 := greatest8 hi b off n cap zs w hn hbig hc
  rw [inR_eq]
  have H1 := Lib.hid h1
  have H2 := Lib.hid h2
  clear h1 h2 hc hn
  generalize leastI lo zs = m at *
  generalize greatestI hi zs = m2 at *
  by_cases c : (m == lo) = true
  · rw [c, Bool.true_and]
    go_enter Tryd.func128, Tryd.ntmps128
    go_wp2_with fail
    refine H1.out.mono ?_
    rintro e w' ⟨rfl, rfl⟩
    go_wp2_with fail
    refine H2.out.mono ?_
    rintro e w' ⟨rfl, rfl⟩
    go_wp2_with fail
    go_ret
    exact ⟨rfl, rfl⟩
  · have c' : (m == lo) = false := by simpa using c
    rw [c', Bool.false_and]
    clear c
    go_enter Tryd.func128, Tryd.ntmps128
    go_wp2_with fail
    refine H1.out.mono ?_
    rintro e w' ⟨rfl, rfl⟩
    go_wp2_with fail
    go_ret
    exact ⟨rfl, rfl⟩

end Go.Proofs.YtjghopepgfgebaaDoor
