/-
  Names: the contracts of isSmallLetter, isDigit, IsName (package impl) and of l01Small, l01Digit, l01Name, IsName (package spec).
-/
import Derived.Test.YtleaoemckdkndaaCore3
namespace Go.Proofs.Ytleaoemckdkndaa
open Go.RowKit

def smallB (c : Int) : Bool := inR 97 122 [c]
def digitB (c : Int) : Bool := inR 48 57 [c]
def okB (c : UInt8) : Bool := smallB (c.toNat : Int) || digitB (c.toNat : Int)

/-- Whether bytes are a name. -/
def nameB : List UInt8 → Bool
  | [] => false
  | c :: cs => decide (cs.length < 10) && (smallB (c.toNat : Int) && (c :: cs).all okB)

theorem take_snoc (s : ByteArray) (k : Nat) (h : k < s.size) : s.data.toList.take (k + 1) = s.data.toList.take k ++ [s[k]] := by
  rw [List.take_succ_eq_append_getElem (by simpa using h)]; rfl

theorem size_len (s : ByteArray) : s.data.toList.length = s.size := Array.length_toList
theorem nameB_long (s : ByteArray) (h : 10 < s.size) : nameB s.data.toList = false := by
  have e := size_len s
  cases hl : s.data.toList with
  | nil => rfl
  | cons c cs =>
    rw [hl, List.length_cons] at e
    have : decide (cs.length < 10) = false := by simp; omega
    simp only [nameB, this, Bool.false_and]
def allB (l : List UInt8) : Bool := l.all okB
theorem nameB_list (l : List UInt8) (h0 : 0 < l.length) (h : l.length ≤ 10) : nameB l = (smallB (l[0].toNat : Int) && allB l) := by
  cases l with
  | nil => simp at h0
  | cons c cs =>
    rw [List.length_cons] at h
    have : decide (cs.length < 10) = true := by simp; omega
    simp only [nameB, this, Bool.true_and, List.getElem_cons_zero, allB]
theorem nameB_short (s : ByteArray) (h0 : 0 < s.size) (h : s.size ≤ 10) : nameB s.data.toList = (smallB (s[0].toNat : Int) && allB s.data.toList) := by
  have e := size_len s
  exact nameB_list s.data.toList (by omega) (by omega)
theorem all_stop (l : List UInt8) (k : Nat) (h : k < l.length) (hc : okB l[k] = false) : allB l = false := by
  unfold allB
  rw [List.all_eq_false]
  exact ⟨l[k], List.getElem_mem h, by simp [hc]⟩
theorem all_go (s : ByteArray) (k : Nat) (h : k < s.size) (h1 : allB (s.data.toList.take k) = true) (h2 : okB s[k] = true) : allB (s.data.toList.take (k + 1)) = true := by
  unfold allB at *
  rw [take_snoc s k h, List.all_append, h1]
  simp [h2]

theorem inR_size (s : ByteArray) : inR 1 10 [(s.size : Int)] = (decide (0 < s.size) && decide (s.size ≤ 10)) := by
  unfold inR
  simp [List.all_cons]
  congr 1 <;> simp <;> omega

end Go.Proofs.Ytleaoemckdkndaa
