/-
  Numbers read from texts: the contracts of ReadDecimal (package impl) and of l01Digit, l01Number, ReadDecimal (package spec).
-/
import Derived.Test.YtbdikmfbdibcgaaDoorCore
import Derived.Test.YtbdikmfbdibcgaaDoorPost
import Derived.Test.YtbdikmfbdibcgaaDoorDec
import Derived.Test.YtbdikmfbdibcgaaDoorNumMath
import Derived.Test.YtbdikmfbdibcgaaDoorShelf
namespace Go.Proofs.YtbdikmfbdibcgaaDoor
open Go.RowKit

def numV (l : List UInt8) : Int := (numI l).getD 0
def numOk (l : List UInt8) : Bool := (numI l).isSome
theorem ret_pair {a b : Int} {x y : Bool} (h : a = b) (k : x = y) : Ending.returned (.tuple #[.int .i64 a, .bool x]) = .returned (.tuple #[.int .i64 b, .bool y]) := by rw [h, k]

theorem size_lenU (s : ByteArray) : s.data.toList.length = s.size := Array.length_toList
theorem numI_empty : numI [] = none := rfl
theorem valN_take (b : List UInt8) (j : Nat) (h : j < b.length) : valN (b.take (j + 1)) = 10 * valN (b.take j) + (b[j].toNat - 48) := by
  rw [List.take_succ_eq_append_getElem h, valN_snoc]
theorem all_take (b : List UInt8) (j : Nat) (h : j < b.length) (h1 : (b.take j).all digB = true) (h2 : digB b[j] = true) : (b.take (j + 1)).all digB = true := by
  rw [List.take_succ_eq_append_getElem h, List.all_append, h1]
  simp [h2]
theorem all_not (b : List UInt8) (j : Nat) (h : j < b.length) (h2 : digB b[j] = false) : b.all digB = false := by
  rw [List.all_eq_false]
  exact ⟨b[j], List.getElem_mem h, by simp [h2]⟩
/-- All bytes are digits, out of the walk's sight. -/
def allD (b : List UInt8) : Bool := b.all digB

/-- What holds at the head of the loop over the digits b. -/
structure NumInv (b : List UInt8) (j : Nat) (n : Int) : Prop where
  le : j ≤ b.length
  val : n = (valN (b.take j) : Int)
  dig : allD (b.take j) = true
theorem NumInv.bd {b : List UInt8} {j : Nat} {n : Int} (h : NumInv b j n) (hl : b.length ≤ 18) : 0 ≤ n ∧ n < 1000000000000000000 := by
  have := valN_lt 18 (b.take j) (by rw [List.length_take]; omega) h.dig
  rw [h.val]
  omega
theorem NumInv.bd' {b : List UInt8} {j : Nat} {n : Int} (h : NumInv b j n) (hl : b.length ≤ 18) (hj : j < b.length) : n < 100000000000000000 := by
  have := valN_lt 17 (b.take j) (by rw [List.length_take]; omega) h.dig
  rw [h.val]
  omega
theorem NumInv.next {b : List UInt8} {j : Nat} {n : Int} (h : NumInv b j n) (hj : j < b.length) (hd : digB b[j] = true) : NumInv b (j + 1) (10 * n + ((b[j].toNat : Int) - 48)) := by
  have hc := (digB_iff _).1 hd
  refine ⟨by omega, ?_, all_take b j hj h.dig hd⟩
  rw [valN_take b j hj, h.val]
  omega
theorem NumInv.done {b : List UInt8} {n : Int} (h : NumInv b b.length n) : n = (valN b : Int) ∧ b.all digB = true := by
  have h1 := h.val
  have h2 := h.dig
  rw [List.take_length] at h1 h2
  exact ⟨h1, h2⟩

theorem no_long (l : List UInt8) (h : 18 < (bodyN l).length) : numI l = none := by unfold numI; rw [if_pos (.inr (.inl h))]
theorem no_empty (l : List UInt8) (h : (bodyN l).length = 0) : numI l = none := by unfold numI; rw [if_pos (.inl h)]
theorem no_zero (l : List UInt8) (h : (bodyN l).head? = some 48) (h2 : 1 < l.length) : numI l = none := by unfold numI; rw [if_pos (.inr (.inr ⟨h, h2⟩))]
theorem no_digit (l : List UInt8) (h : (bodyN l).all digB = false) : numI l = none := by
  unfold numI
  split
  · rfl
  · rw [h]; rfl
theorem yes_num (l : List UInt8) (h0 : (bodyN l).length ≠ 0) (h1 : (bodyN l).length ≤ 18) (h2 : ¬ ((bodyN l).head? = some 48 ∧ 1 < l.length)) (h3 : (bodyN l).all digB = true) :
    numI l = some (if l.head? = some 45 then -(valN (bodyN l) : Int) else (valN (bodyN l) : Int)) := by
  unfold numI
  rw [if_neg, if_pos h3]
  rintro (h | h | h)
  · exact h0 h
  · omega
  · exact h2 h
theorem none_v {l : List UInt8} (h : numI l = none) : numV l = 0 ∧ numOk l = false := by unfold numV numOk; rw [h]; exact ⟨rfl, rfl⟩
theorem some_v {l : List UInt8} {n : Int} (h : numI l = some n) : numV l = n ∧ numOk l = true := by unfold numV numOk; rw [h]; exact ⟨rfl, rfl⟩
theorem head_of (s : ByteArray) (h : 0 < s.size) : s.data.toList.head? = some s[0] := by
  have e := size_lenU s
  rw [List.head?_eq_getElem?, List.getElem?_eq_getElem (by omega)]
  rfl
theorem byte_eq (c : UInt8) (n : Nat) (hn : n < 256) : ((c.toNat : Int) == (n : Int)) = decide (c = UInt8.ofNat n) := by
  rw [Bool.eq_iff_iff, beq_iff_eq, decide_eq_true_eq]
  constructor
  · intro h
    apply UInt8.toNat_inj.1
    rw [UInt8.toNat_ofNat', Nat.mod_eq_of_lt (by omega)]
    omega
  · intro h
    subst h
    rw [UInt8.toNat_ofNat', Nat.mod_eq_of_lt (by omega)]

theorem body_plain (s : ByteArray) (hpos : 0 < s.size) (h : ((s[0].toNat : Int) == 45) = false) : bodyN s.data.toList = s.data.toList := by
  have hq : decide (s[0] = 45) = false := (byte_eq s[0] 45 (by omega)).symm.trans h
  unfold bodyN
  rw [head_of s hpos, if_neg (by intro e; rw [decide_eq_false_iff_not] at hq; exact hq (Option.some.inj e))]
theorem body_signed (s : ByteArray) (hpos : 0 < s.size) (h : ((s[0].toNat : Int) == 45) = true) : bodyN s.data.toList = s.data.toList.tail := by
  have hq : decide (s[0] = 45) = true := (byte_eq s[0] 45 (by omega)).symm.trans h
  unfold bodyN
  rw [head_of s hpos, if_pos (by rw [decide_eq_true_eq] at hq; rw [hq])]

end Go.Proofs.YtbdikmfbdibcgaaDoor
