/-
  The law's own helper markText: a text for each number.
-/
import Derived.Test.YtfloppjkfcbgiaaKeep
import Derived.Test.YtfloppjkfcbgiaaArg0
import Derived.Lib.ItoaNum
import Derived.Deep.QuietTactic
import Derived.BigQuiet
namespace Go.Proofs.Ytfloppjkfcbgiaa
open Go.RowKit
set_option linter.unusedVariables false

theorem ddM_small (u : Nat) (h : u < 10) : Lib.decDigits u = [UInt8.ofNat (48 + u)] := by rw [Lib.decDigits, dif_pos h]
theorem ddM_big (u : Nat) (h : ¬ u < 10) : Lib.decDigits u = Lib.decDigits (u / 10) ++ [UInt8.ofNat (48 + u % 10)] := by rw [Lib.decDigits, dif_neg h]
/-- The digits of a number, none for 0. -/
def dd0 (m : Nat) : List UInt8 := if m = 0 then [] else Lib.decDigits m
theorem dd0_step (m : Nat) (h : m ≠ 0) : dd0 m = dd0 (m / 10) ++ [UInt8.ofNat (48 + m % 10)] := by
  unfold dd0
  rw [if_neg h]
  by_cases c : m < 10
  · rw [ddM_small m c, if_pos (by omega), Nat.mod_eq_of_lt c]; rfl
  · rw [ddM_big m c, if_neg (by omega)]
/-- The text of a number. -/
def mkT (k : Nat) : ByteArray := ⟨(109 :: dd0 k).toArray⟩

theorem bytes_inj' {a b : ByteArray} (h : a.data.toList = b.data.toList) : a = b := WideShapes.bytes_inj h

set_option maxRecDepth 100000 in
set_option maxHeartbeats 1000000 in
theorem markText_any (k : Nat) (w : World) (h0 : 1 ≤ k) (h1 : k ≤ 4503599627370496) :
    Calls Try.prog 67 #[.int .i64 (k : Int)] w fun e w' => e = .returned (.string (mkT k)) ∧ Below w.heap.size w w' := by
  have h0' : decide ((k : Int) ≤ 0) = false := by simp; omega
  have h0'' : (k == 0) = false := beq_eq_false_iff_ne.2 (by omega)
  have h0d : decide (k = 0) = false := by simp; omega
  go_enter Try.func67, Try.ntmps67
  go_wp2_with fail
  go_loopw [0, 3] (fun t o wr => ∃ (m : Nat) (l : List UInt8), t = .int .i64 (m : Int) ∧ o = .string ⟨l.toArray⟩ ∧ l.length + m ≤ k ∧ dd0 m ++ l = dd0 k ∧ Below w.heap.size w wr ∧ w.heap.size ≤ wr.heap.size) (fun t _ _ => (intOf t).toNat)
  case atStart => exact ⟨k, [], rfl, rfl, by simp, List.append_nil _, Below.refl _ _, Nat.le_refl _⟩
  case round =>
    obtain ⟨m, l, rfl, rfl, hm, hl, hbel, hsz⟩ := hrel
    have HL := Lib.hid hl
    clear hl
    by_cases hz : 1 ≤ m
    · have hz' : decide (0 < m) = true := by simp; omega
      have hst := dd0_step m (by omega)
      have HS := Lib.hid hst
      clear hst
      have hconv := run_convert_bytes_arg (P := Try.prog) (wr.alloc (.cells #[.int .u8 (48 + (m : Int) % 10)] 5)) 111 5 Try.underlying111 Try.underlying5 wr.heap.size 0 1 1 [48 + (m : Int) % 10] rfl (fun i hi => by
        obtain rfl : i = 0 := by omega
        simp) 9 Try.underlying9
      have hsl : ¬ 9223372036854775807 < (strOfNums [48 + (m : Int) % 10]).size + l.length := by
        rw [strOfNums_size]; simp; omega
      have hstr : strOfNums [48 + (m : Int) % 10] ++ (⟨l.toArray⟩ : ByteArray) = ⟨(UInt8.ofNat (48 + m % 10) :: l).toArray⟩ := by
        apply bytes_inj'
        rw [ByteArray.data_append, Array.toList_append, strOfNums_data]
        have : (48 + (m : Int) % 10).toNat = 48 + m % 10 := by omega
        simp [this]
      have HT := Lib.hid hstr
      clear hstr
      have hb2 := hbel.alloc hsz (.cells #[.int .u8 (48 + (m : Int) % 10)] 5)
      clear hbel
      go_wp2_with fail
      go_roundw
      case rel => exact ⟨m / 10, UInt8.ofNat (48 + m % 10) :: l, by go_num, by rw [HT.out], by rw [List.length_cons]; omega, by rw [← HL.out, HS.out, List.append_assoc]; rfl, hb2, by simp; omega⟩
      case measure => (simp [intOf] <;> omega)
    · obtain rfl : m = 0 := by omega
      have hl : l = dd0 k := by have := HL.out; simpa [dd0] using this
      have LL := Lib.hid hl
      have hsl : ¬ 9223372036854775807 < 1 + l.length := by omega
      have hsl2 : ¬ 9223372036854775807 < l.length + 1 := by omega
      clear hl
      go_wp2_with fail
      go_ret
      exact ⟨ret_str (by rw [LL.out]; rfl), hbel⟩
theorem markText_int (n : Int) (k : Nat) (hk : n = (k : Int)) (w : World) (h0 : 1 ≤ k) (h1 : k ≤ 4503599627370496) :
    Calls Try.prog 67 #[.int .i64 n] w fun e w' => e = .returned (.string (mkT k)) ∧ Below w.heap.size w w' := by
  subst hk
  exact markText_any k w h0 h1


end Go.Proofs.Ytfloppjkfcbgiaa
