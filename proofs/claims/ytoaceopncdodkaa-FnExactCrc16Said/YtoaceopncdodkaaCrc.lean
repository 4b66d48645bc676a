/-
  Check values: the contracts of crcOfByte, Crc16 (package impl) and of l01Crc, Crc16 (package spec).
-/
import Derived.Test.YtoaceopncdodkaaBase
import Derived.Test.YtoaceopncdodkaaDiv
import Derived.Test.YtoaceopncdodkaaName
namespace Go.Proofs.Ytoaceopncdodkaa
open Go.RowKit

theorem xor_16 (a b : Nat) (ha : a < 65536) (hb : b < 65536) : bits .xor .i64 (a : Int) (b : Int) = ((a ^^^ b : Nat) : Int) ∧ a ^^^ b < 65536 := by
  have hx : a ^^^ b < 2 ^ 16 := Nat.xor_lt_two_pow (by omega) (by omega)
  refine ⟨?_, by omega⟩
  have ha' : a % 2 ^ IntKind.i64.bits = a := Nat.mod_eq_of_lt (Nat.lt_of_lt_of_le ha (by decide))
  have hb' : b % 2 ^ IntKind.i64.bits = b := Nat.mod_eq_of_lt (Nat.lt_of_lt_of_le hb (by decide))
  simp only [bits, BitVec.ofInt_natCast, BitVec.toNat_xor, BitVec.toNat_ofNat, ha', hb']
  exact IntWalk.i64_in _ (by omega)
theorem and_16 (a : Nat) (ha : a < 131072) : bits .and .i64 (a : Int) 65535 = ((a % 65536 : Nat) : Int) := by
  have := bits_mask .i64 17 (by decide) (fun n h0 h1 => IntWalk.i64_in _ (by omega)) 16 (by decide) (a : Int) (by omega) (by omega)
  simpa using this

/-- One doubling. -/
def crcBit (c : Int) : Int := if 65535 < c * 2 then bits .xor .i64 (bits .and .i64 (c * 2) 65535) 4129 else c * 2
def crcRun (c : Int) : Nat → Int
  | 0 => c
  | k + 1 => crcBit (crcRun c k)
def crcByte (c b : Int) : Int := crcRun (bits .xor .i64 c (b * 256)) 8
def crcAll (c : Int) (l : List UInt8) : Int := l.foldl (fun c b => crcByte c (b.toNat : Int)) c

theorem crcBit_bd (c : Int) (h0 : 0 ≤ c) (h1 : c ≤ 65535) : 0 ≤ crcBit c ∧ crcBit c ≤ 65535 := by
  unfold crcBit
  split
  · obtain ⟨n, rfl⟩ := Int.eq_ofNat_of_zero_le h0
    rw [show (n : Int) * 2 = ((n * 2 : Nat) : Int) by omega, and_16 (n * 2) (by omega)]
    have h := xor_16 (n * 2 % 65536) 4129 (by omega) (by omega)
    have e : bits .xor .i64 ((n * 2 % 65536 : Nat) : Int) 4129 = ((n * 2 % 65536 ^^^ 4129 : Nat) : Int) := h.1
    rw [e]
    have := h.2
    omega
  · omega
theorem crcRun_bd (c : Int) (h0 : 0 ≤ c) (h1 : c ≤ 65535) : ∀ k, 0 ≤ crcRun c k ∧ crcRun c k ≤ 65535
  | 0 => ⟨h0, h1⟩
  | k + 1 => crcBit_bd _ (crcRun_bd c h0 h1 k).1 (crcRun_bd c h0 h1 k).2
theorem mix_bd (c b : Int) (h0 : 0 ≤ c) (h1 : c ≤ 65535) (h2 : 0 ≤ b) (h3 : b ≤ 255) : 0 ≤ bits .xor .i64 c (b * 256) ∧ bits .xor .i64 c (b * 256) ≤ 65535 := by
  obtain ⟨n, rfl⟩ := Int.eq_ofNat_of_zero_le h0
  obtain ⟨m, rfl⟩ := Int.eq_ofNat_of_zero_le h2
  have h := xor_16 n (m * 256) (by omega) (by omega)
  rw [show (m : Int) * 256 = ((m * 256 : Nat) : Int) by omega, h.1]
  have := h.2
  omega
theorem crcByte_bd (c b : Int) (h0 : 0 ≤ c) (h1 : c ≤ 65535) (h2 : 0 ≤ b) (h3 : b ≤ 255) : 0 ≤ crcByte c b ∧ crcByte c b ≤ 65535 :=
  crcRun_bd _ (mix_bd c b h0 h1 h2 h3).1 (mix_bd c b h0 h1 h2 h3).2 8
theorem byte_bd (b : UInt8) : 0 ≤ (b.toNat : Int) ∧ (b.toNat : Int) ≤ 255 := by
  have := b.toNat_lt
  omega
theorem crcAll_bd (l : List UInt8) : ∀ c : Int, 0 ≤ c → c ≤ 65535 → 0 ≤ crcAll c l ∧ crcAll c l ≤ 65535 := by
  induction l with
  | nil => exact fun c h0 h1 => ⟨h0, h1⟩
  | cons b l ih =>
    intro c h0 h1
    have hb := byte_bd b
    have h := crcByte_bd c _ h0 h1 hb.1 hb.2
    exact ih _ h.1 h.2
theorem crcAll_snoc (c : Int) (s : ByteArray) (k : Nat) (h : k < s.size) : crcAll c (s.data.toList.take (k + 1)) = crcByte (crcAll c (s.data.toList.take k)) (s[k].toNat : Int) := by
  rw [take_snoc s k h]
  simp [crcAll]

set_option maxHeartbeats 800000 in
theorem crcOfByte_any (c b : Int) (w : World) (h0 : 0 ≤ c) (h1 : c ≤ 65535) (h2 : 0 ≤ b) (h3 : b ≤ 255) :
    Calls Try.prog 25 #[.int .i64 c, .int .u8 b] w fun e w' => e = .returned (.int .i64 (crcByte c b)) ∧ w = w' := by
  have hmix := mix_bd c b h0 h1 h2 h3
  unfold crcByte
  generalize hm : bits .xor .i64 c (b * 256) = m at *
  obtain ⟨m0, m1⟩ := hmix
  go_enter Try.func25, Try.ntmps25
  go_wp2_with fail
  go_loop [0, 10] (fun t i => ∃ k : Nat, k ≤ 8 ∧ i = .int .i64 k ∧ t = .int .i64 (crcRun m k)) (fun _ i => 8 - (intOf i).toNat)
  case atStart => exact ⟨0, Nat.zero_le _, rfl, rfl⟩
  case round =>
    obtain ⟨k, hk, rfl, rfl⟩ := hrel
    obtain ⟨r0, r1⟩ := crcRun_bd m m0 m1 k
    have es : crcRun m (k + 1) = crcBit (crcRun m k) := rfl
    have ES := Lib.hid es
    clear es
    have hm' := Lib.hid hm
    clear hm
    by_cases hlt : k < 8
    · generalize crcRun m k = r at *
      by_cases hb : 65535 < r * 2
      · have e : crcBit r = bits .xor .i64 (bits .and .i64 (r * 2) 65535) 4129 := by unfold crcBit; rw [if_pos hb]
        have E := Lib.hid e
        clear e
        go_wp2_with fail
        go_round
        case rel => exact ⟨k + 1, by omega, by go_num, by rw [ES.out, E.out]⟩
        case measure => (simp [intOf] <;> omega)
      · have e : crcBit r = r * 2 := by unfold crcBit; rw [if_neg hb]
        have E := Lib.hid e
        clear e
        go_wp2_with fail
        go_round
        case rel => exact ⟨k + 1, by omega, by go_num, by rw [ES.out, E.out]⟩
        case measure => (simp [intOf] <;> omega)
    · obtain rfl : k = 8 := by omega
      go_wp2_with fail
      go_ret
      exact ⟨rfl, rfl⟩

/-- What both Crc16 come to. -/
def crcOf (l : List UInt8) (start : Int) : Int := if inR 0 65535 [start] = true then crcAll start l else 0

set_option maxHeartbeats 800000 in
theorem implCrc_any (s : ByteArray) (start : Int) (w : World) (hmax : s.size ≤ 9223372036854775806) :
    Calls Try.prog 11 #[.string s, .int .i64 start] w fun e w' => e = .returned (.int .i64 (crcOf s.data.toList start)) ∧ Grown w w' := by
  unfold crcOf
  cases hin : inR 0 65535 [start] with
  | false =>
    simp only [Bool.false_eq_true, if_false]
    have HI := Lib.hid hin
    clear hin
    go_enter Try.func11, Try.ntmps11
    go_wp2_with fail
    refine (within64 _ _ _ _ _ _ [start] _ rfl (by simp) (cells_1 _ _ _ _)).mono ?_
    rintro e w' ⟨rfl, rfl⟩
    rw [HI.out]
    go_wp2_with fail
    go_ret
    exact ⟨rfl, (Grown.refl _).alloc _ _⟩
  | true =>
    obtain ⟨b0, b1⟩ := (inR_1 _ _ _).1 hin
    rw [if_pos rfl]
    have HI := Lib.hid hin
    clear hin
    go_enter Try.func11, Try.ntmps11
    go_wp2_with fail
    refine (within64 _ _ _ _ _ _ [start] _ rfl (by simp) (cells_1 _ _ _ _)).mono ?_
    rintro e w' ⟨rfl, rfl⟩
    rw [HI.out]
    go_wp2_with fail
    go_loop [5, 14] (fun t i => ∃ k : Nat, k ≤ s.size ∧ i = .int .i64 k ∧ t = .int .i64 (crcAll start (s.data.toList.take k))) (fun _ i => s.size - (intOf i).toNat)
    case atStart => exact ⟨0, Nat.zero_le _, rfl, rfl⟩
    case round =>
      obtain ⟨k, hk, rfl, rfl⟩ := hrel
      obtain ⟨r0, r1⟩ := crcAll_bd (s.data.toList.take k) start b0 b1
      by_cases hlt : k < s.size
      · have ES := Lib.hid (crcAll_snoc start s k hlt)
        obtain ⟨c0, c1⟩ := byte_bd s[k]
        generalize crcAll start (s.data.toList.take k) = r at *
        go_wp2_with fail
        refine (crcOfByte_any _ _ _ r0 r1 c0 c1).mono ?_
        rintro e w' ⟨rfl, rfl⟩
        go_wp2_with fail
        go_round
        case rel => exact ⟨k + 1, by omega, by go_num, by rw [ES.out]⟩
        case measure => (simp [intOf] <;> omega)
      · have e1 : s.data.toList.take k = s.data.toList := List.take_of_length_le (by rw [size_len]; omega)
        have E1 := Lib.hid e1
        clear e1
        go_wp2_with fail
        go_ret
        exact ⟨ret_int (by rw [E1.out]), (Grown.refl _).alloc _ _⟩

set_option maxHeartbeats 1000000 in
theorem l01Crc_any (s : ByteArray) (start : Int) (w : World) (hmax : s.size ≤ 9223372036854775806) (b0 : 0 ≤ start) (b1 : start ≤ 65535) :
    Calls Try.prog 23 #[.string s, .int .i64 start] w fun e w' => e = .returned (.int .i64 (crcAll start s.data.toList)) ∧ w = w' := by
  go_enter Try.func23, Try.ntmps23
  go_wp2_with fail
  go_loop [1, 5] (fun t i => ∃ k : Nat, k ≤ s.size ∧ i = .int .i64 k ∧ t = .int .i64 (crcAll start (s.data.toList.take k))) (fun _ i => s.size - (intOf i).toNat)
  case atStart => exact ⟨0, Nat.zero_le _, rfl, rfl⟩
  case round =>
    obtain ⟨k, hk, rfl, rfl⟩ := hrel
    obtain ⟨r0, r1⟩ := crcAll_bd (s.data.toList.take k) start b0 b1
    by_cases hlt : k < s.size
    · have ES := Lib.hid (crcAll_snoc start s k hlt)
      obtain ⟨c0, c1⟩ := byte_bd s[k]
      generalize crcAll start (s.data.toList.take k) = r at *
      obtain ⟨m0, m1⟩ := mix_bd r (s[k].toNat : Int) r0 r1 c0 c1
      unfold crcByte at ES
      generalize hm : bits .xor .i64 r ((s[k].toNat : Int) * 256) = m at *
      go_wp2_with fail
      go_loop [1, 6] (fun t i => ∃ j : Nat, j ≤ 8 ∧ i = .int .i64 j ∧ t = .int .i64 (crcRun m j)) (fun _ i => 8 - (intOf i).toNat)
      case atStart => exact ⟨0, Nat.zero_le _, rfl, rfl⟩
      case round =>
        obtain ⟨j, hj, rfl, rfl⟩ := hrel
        obtain ⟨q0, q1⟩ := crcRun_bd m m0 m1 j
        have EJ := Lib.hid (show crcRun m (j + 1) = crcBit (crcRun m j) from rfl)
        have hm' := Lib.hid hm
        clear hm
        by_cases hl8 : j < 8
        · generalize crcRun m j = q at *
          by_cases hb : 65535 < q * 2
          · have e : crcBit q = bits .xor .i64 (bits .and .i64 (q * 2) 65535) 4129 := by unfold crcBit; rw [if_pos hb]
            have E := Lib.hid e
            clear e
            go_wp2_with fail
            go_round
            case rel => exact ⟨j + 1, by omega, by go_num, by rw [EJ.out, E.out]⟩
            case measure => (simp [intOf] <;> omega)
          · have e : crcBit q = q * 2 := by unfold crcBit; rw [if_neg hb]
            have E := Lib.hid e
            clear e
            go_wp2_with fail
            go_round
            case rel => exact ⟨j + 1, by omega, by go_num, by rw [EJ.out, E.out]⟩
            case measure => (simp [intOf] <;> omega)
        · obtain rfl : j = 8 := by omega
          go_wp2_with fail
          go_round
          case rel => exact ⟨k + 1, by omega, by go_num, by rw [ES.out]⟩
          case measure => (simp [intOf] <;> omega)
    · have e1 : s.data.toList.take k = s.data.toList := List.take_of_length_le (by rw [size_len]; omega)
      have E1 := Lib.hid e1
      clear e1
      go_wp2_with fail
      go_ret
      exact ⟨ret_int (by rw [E1.out]), rfl⟩

set_option maxHeartbeats 400000 in
theorem specCrc_any (s : ByteArray) (start : Int) (w : World) (hmax : s.size ≤ 9223372036854775806) :
    Calls Try.prog 10 #[.string s, .int .i64 start] w fun e w' => e = .returned (.int .i64 (crcOf s.data.toList start)) ∧ w = w' := by
  unfold crcOf
  cases hin : inR 0 65535 [start] with
  | false =>
    simp only [Bool.false_eq_true, if_false]
    have HI := Lib.hid hin
    clear hin
    go_enter Try.func10, Try.ntmps10
    go_wp2_with fail
    refine (l00In_any _ _ _ _).mono ?_
    rintro e w' ⟨rfl, rfl⟩
    rw [HI.out]
    go_wp2_with fail
    go_ret
    exact ⟨rfl, rfl⟩
  | true =>
    obtain ⟨b0, b1⟩ := (inR_1 _ _ _).1 hin
    rw [if_pos rfl]
    have HI := Lib.hid hin
    clear hin
    go_enter Try.func10, Try.ntmps10
    go_wp2_with fail
    refine (l00In_any _ _ _ _).mono ?_
    rintro e w' ⟨rfl, rfl⟩
    rw [HI.out]
    go_wp2_with fail
    refine (l01Crc_any _ _ _ hmax b0 b1).mono ?_
    rintro e w' ⟨rfl, rfl⟩
    go_wp2_with fail
    go_ret
    exact ⟨rfl, rfl⟩
end Go.Proofs.Ytoaceopncdodkaa
