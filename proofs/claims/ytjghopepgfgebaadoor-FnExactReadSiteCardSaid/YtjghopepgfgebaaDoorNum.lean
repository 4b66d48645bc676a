/-
  Numbers read from texts: the contracts of ReadDecimal (package impl) and of l01Digit, l01Number, ReadDecimal (package spec).
-/
import Derived.Test.YtjghopepgfgebaaDoorCore
import Derived.Test.YtjghopepgfgebaaDoorPost
import Derived.Test.YtjghopepgfgebaaDoorDec
import Derived.Test.YtjghopepgfgebaaDoorNumMath
import Derived.Test.YtjghopepgfgebaaDoorShelf
namespace Go.Proofs.YtjghopepgfgebaaDoor
open Go.RowKit

def numV (l : List UInt8) : Int := (numI l).getD 0
def numOk (l : List UInt8) : Bool := (numI l).isSome
theorem ret_pair {a b : Int} {x y : Bool} (h : a = b) (k : x = y) : Ending.returned (.tuple #[.int .i64 a, .bool x]) = .returned (.tuple #[.int .i64 b, .bool y]) := by rw [h, k]

set_option maxHeartbeats 400000 in
theorem l01DigitU_any (c : UInt8) (w : World) :
    Calls Tryd.prog 65 #[.int .u8 (c.toNat : Int)] w fun e w' => e = .returned (.bool (digB c)) ∧ w = w' := by
  unfold digB
  by_cases h : 48 ≤ c.toNat
  · have h' : decide (48 ≤ c.toNat) = true := by simpa using h
    rw [h', Bool.true_and]
    go_enter Tryd.func65, Tryd.ntmps65
    go_wp2_with fail
    go_ret
    exact ⟨by simp; omega, rfl⟩
  · have h' : decide (48 ≤ c.toNat) = false := by simpa using h
    have h'' : decide ((48 : Int) ≤ (c.toNat : Int)) = false := by simp; omega
    rw [h', Bool.false_and]
    go_enter Tryd.func65, Tryd.ntmps65
    go_wp2_with fail
    go_ret
    exact ⟨rfl, rfl⟩

theorem size_lenU (s : ByteArray) : s.data.toList.length = s.size := Array.length_toList
theorem numI_empty : numI [] = none := rfl
theorem valN_take (b : List UInt8) (j : Nat) (h : j < b.length) : valN (b.take (j + 1)) = 10 * valN (b.take j) + (b[j].toNat - 48) := by
  rw [List.take_succ_eq_append_getElem h, valN_snoc]
theorem all_take (b : List UInt8) (j : Nat) (h : j < b.length) (h1 : (b.take j).all digB = true) (h2 : digB b[j] = true) : (b.take (j + 1)).all digB = true := by
  rw [List.take_succ_eq_append_getElem h, List.all_append, h1]
  simp [h2]
theorem all_not (b : List UInt8) (j : Nat) (h : j < b.length) (h2 : digB b[j] = false) : b.all digB = false := by
  rw [List.all_eq_false]
  exact ⟨b[j], List.getElem_mem h, by simp [h2]⟩
/-- All bytes are digits, out of the walk's sight. -/
def allD (b : List UInt8) : Bool := b.all digB

/-- What holds at the head of the loop over the digits b. -/
structure NumInv (b : List UInt8) (j : Nat) (n : Int) : Prop where
  le : j ≤ b.length
  val : n = (valN (b.take j) : Int)
  dig : allD (b.take j) = true
theorem NumInv.bd {b : List UInt8} {j : Nat} {n : Int} (h : NumInv b j n) (hl : b.length ≤ 18) : 0 ≤ n ∧ n < 1000000000000000000 := by
  have := valN_lt 18 (b.take j) (by rw [List.length_take]; omega) h.dig
  rw [h.val]
  omega
theorem NumInv.bd' {b : List UInt8} {j : Nat} {n : Int} (h : NumInv b j n) (hl : b.length ≤ 18) (hj : j < b.length) : n < 100000000000000000 := by
  have := valN_lt 17 (b.take j) (by rw [List.length_take]; omega) h.dig
  rw [h.val]
  omega
theorem NumInv.next {b : List UInt8} {j : Nat} {n : Int} (h : NumInv b j n) (hj : j < b.length) (hd : digB b[j] = true) : NumInv b (j + 1) (10 * n + ((b[j].toNat : Int) - 48)) := by
  have hc := (digB_iff _).1 hd
  refine ⟨by omega, ?_, all_take b j hj h.dig hd⟩
  rw [valN_take b j hj, h.val]
  omega
theorem NumInv.done {b : List UInt8} {n : Int} (h : NumInv b b.length n) : n = (valN b : Int) ∧ b.all digB = true := by
  have h1 := h.val
  have h2 := h.dig
  rw [List.take_length] at h1 h2
  exact ⟨h1, h2⟩

theorem no_long (l : List UInt8) (h : 18 < (bodyN l).length) : numI l = none := by unfold numI; rw [if_pos (.inr (.inl h))]
theorem no_empty (l : List UInt8) (h : (bodyN l).length = 0) : numI l = none := by unfold numI; rw [if_pos (.inl h)]
theorem no_zero (l : List UInt8) (h : (bodyN l).head? = some 48) (h2 : 1 < l.length) : numI l = none := by unfold numI; rw [if_pos (.inr (.inr ⟨h, h2⟩))]
theorem no_digit (l : List UInt8) (h : (bodyN l).all digB = false) : numI l = none := by
  unfold numI
  split
  · rfl
  · rw [h]; rfl
theorem yes_num (l : List UInt8) (h0 : (bodyN l).length ≠ 0) (h1 : (bodyN l).length ≤ 18) (h2 : ¬ ((bodyN l).head? = some 48 ∧ 1 < l.length)) (h3 : (bodyN l).all digB = true) :
    numI l = some (if l.head? = some 45 then -(valN (bodyN l) : Int) else (valN (bodyN l) : Int)) := by
  unfold numI
  rw [if_neg, if_pos h3]
  rintro (h | h | h)
  · exact h0 h
  · omega
  · exact h2 h
theorem none_v {l : List UInt8} (h : numI l = none) : numV l = 0 ∧ numOk l = false := by unfold numV numOk; rw [h]; exact ⟨rfl, rfl⟩
theorem some_v {l : List UInt8} {n : Int} (h : numI l = some n) : numV l = n ∧ numOk l = true := by unfold numV numOk; rw [h]; exact ⟨rfl, rfl⟩
theorem head_of (s : ByteArray) (h : 0 < s.size) : s.data.toList.head? = some s[0] := by
  have e := size_lenU s
  rw [List.head?_eq_getElem?, List.getElem?_eq_getElem (by omega)]
  rfl
theorem byte_eq (c : UInt8) (n : Nat) (hn : n < 256) : ((c.toNat : Int) == (n : Int)) = decide (c = UInt8.ofNat n) := by
  rw [Bool.eq_iff_iff, beq_iff_eq, decide_eq_true_eq]
  constructor
  · intro h
    apply UInt8.toNat_inj.1
    rw [UInt8.toNat_ofNat', Nat.mod_eq_of_lt (by omega)]
    omega
  · intro h
    subst h
    rw [UInt8.toNat_ofNat', Nat.mod_eq_of_lt (by omega)]

set_option maxRecDepth 100000 in
set_option maxHeartbeats 2000000 in
theorem l01Number_at0 (s : ByteArray) (w : World) (hmax : s.size ≤ 9223372036854775806) (hpos : 0 < s.size) (hsg : ((s[0].toNat : Int) == 45) = false) (b : List UInt8) (hb : bodyN s.data.toList = b)
    (hlen : b.length = s.size) (hget : ∀ (j : Nat) (h : j < b.length), ∃ h2, s[j]'h2 = b[j]) :
    Calls Tryd.prog 106 #[.string s] w fun e w' => e = .returned (.tuple #[.int .i64 (numV s.data.toList), .bool (numOk s.data.toList)]) ∧ w = w' := by
  have hl := size_lenU s
  have hd0 : decide ((0 : Int) < (s.size : Int)) = true := by simp; omega
  have c1' : ((s.size : Int) == 0) = false := beq_eq_false_iff_ne.2 (by omega)
  have c1'' : (s.size == 0) = false := beq_eq_false_iff_ne.2 (by omega)
  by_cases c2 : 18 < b.length
  · obtain ⟨e1, e2⟩ := none_v (no_long s.data.toList (by rw [hb]; exact c2))
    rw [e1, e2]
    have c2' : decide ((18 : Int) < (s.size : Int)) = true := by simp; omega
    clear e1 e2 hget hl hb
    go_enter Tryd.func106, Tryd.ntmps106
    go_wp2_with fail
    go_ret2
    exact ⟨rfl, rfl⟩
  have c2' : decide ((18 : Int) < (s.size : Int)) = false := by simp; omega
  have hb0 : 0 < b.length := by omega
  obtain ⟨hA, hS⟩ := hget 0 hb0
  have hhd : b.head? = some (s[0]'hA) := by
    rw [List.head?_eq_getElem?, List.getElem?_eq_getElem hb0, ← hS]
  by_cases c3 : s[0] = 48 ∧ 1 < s.size
  · obtain ⟨e1, e2⟩ := none_v (no_zero s.data.toList (by rw [hb, hhd, c3.1]) (by omega))
    rw [e1, e2]
    have c3' : ((s[0].toNat : Int) == 48) = true := by simp [c3.1]
    have c3'' : decide ((1 : Int) < (s.size : Int)) = true := by simp; omega
    clear e1 e2 hget hl hb hS hhd c3
    go_enter Tryd.func106, Tryd.ntmps106
    go_wp2_with fail
    go_ret2
    exact ⟨rfl, rfl⟩
  have hyes : b.all digB = true → numI s.data.toList = some ((valN b : Int)) := by
    intro hall
    have hy := yes_num s.data.toList (by rw [hb]; omega) (by rw [hb]; omega) (by rw [hb, hhd]; intro h; exact c3 ⟨Option.some.inj h.1, by have := h.2; omega⟩) (by rw [hb]; exact hall)
    rw [hb, head_of s hpos] at hy
    have hq := byte_eq s[0] 45 (by omega)
    have hq' : decide (s[0] = 45) = false := hq.symm.trans hsg
    have hq2 : ¬ s[0] = 45 := by simpa using hq'
    rw [if_neg (fun e => hq2 (Option.some.inj e))] at hy
    exact hy
  by_cases c4 : s[0] = 48
  · have c5 : ¬ 1 < s.size := fun h => c3 ⟨c4, h⟩
    have c4' : ((s[0].toNat : Int) == 48) = true := by simp [c4]
    have c5' : decide ((1 : Int) < (s.size : Int)) = false := by simp; omega
    have HY := Lib.hid hyes
    clear hyes
    have HG := Lib.hid hget
    have HB := Lib.hid hb
    clear hget hl hb hS hhd c3 c4
    go_enter Tryd.func106, Tryd.ntmps106
    go_wp2_with fail
    go_loop [5, 6] (fun t i => ∃ (j : Nat) (n : Int), i = .int .i64 ((j : Nat) : Int) ∧ t = .int .i64 n ∧ NumInv b j n) (fun _ i => s.size - (intOf i).toNat)
    case atStart => exact ⟨0, 0, rfl, rfl, ⟨Nat.zero_le _, rfl, rfl⟩⟩
    case round =>
      obtain ⟨j, n, rfl, rfl, hinv⟩ := hrel
      have hjle := hinv.le
      obtain ⟨n0, n1⟩ := hinv.bd (by omega)
      by_cases hj : j < b.length
      · have n2 := hinv.bd' (by omega) hj
        obtain ⟨hx, hy⟩ := HG.out j hj
        have hnx := hinv.next hj
        rw [← hy] at hnx
        have HN := Lib.hid hnx
        have hno := all_not b j hj
        rw [← hy] at hno
        have HO := Lib.hid hno
        clear hno hnx hinv hy
        cases hd : digB s[j] with
        | true =>
          have hc := (digB_iff _).1 hd
          obtain ⟨d0, d1⟩ := hc
          have HD := Lib.hid hd
          clear hd
          go_wp2_with fail
          refine (l01DigitU_any _ _).mono ?_
          rintro e w' ⟨rfl, rfl⟩
          rw [HD.out]
          go_wp2_with fail
          go_round
          case rel => exact ⟨j + 1, _, by go_num, rfl, HN.out HD.out⟩
          case measure => (simp [intOf] <;> omega)
        | false =>
          have HD := Lib.hid hd
          clear hd
          obtain ⟨e1, e2⟩ := none_v (no_digit s.data.toList (by rw [HB.out]; exact HO.out HD.out))
          have E1 := Lib.hid e1
          have E2 := Lib.hid e2
          clear e1 e2
          go_wp2_with fail
          refine (l01DigitU_any _ _).mono ?_
          rintro e w' ⟨rfl, rfl⟩
          rw [HD.out]
          go_wp2_with fail
          go_ret2
          exact ⟨ret_pair E1.out.symm E2.out.symm, rfl⟩
      · obtain rfl : j = b.length := by omega
        obtain ⟨v1, v2⟩ := hinv.done
        obtain ⟨e1, e2⟩ := some_v (HY.out v2)
        have E1 := Lib.hid e1
        have E2 := Lib.hid e2
        have V1 := Lib.hid v1
        clear e1 e2 v1 v2 hinv
        go_wp2_with fail
        go_ret2
        exact ⟨ret_pair (by rw [E1.out, V1.out]) E2.out.symm, rfl⟩
  · have c4' : ((s[0].toNat : Int) == 48) = false := by
      rw [beq_eq_false_iff_ne]
      intro h
      apply c4
      apply UInt8.toNat_inj.1
      have : (48 : UInt8).toNat = 48 := rfl
      omega
    have HY := Lib.hid hyes
    clear hyes
    have HG := Lib.hid hget
    have HB := Lib.hid hb
    clear hget hl hb hS hhd c3 c4
    go_enter Tryd.func106, Tryd.ntmps106
    go_wp2_with fail
    go_loop [5, 6] (fun t i => ∃ (j : Nat) (n : Int), i = .int .i64 ((j : Nat) : Int) ∧ t = .int .i64 n ∧ NumInv b j n) (fun _ i => s.size - (intOf i).toNat)
    case atStart => exact ⟨0, 0, rfl, rfl, ⟨Nat.zero_le _, rfl, rfl⟩⟩
    case round =>
      obtain ⟨j, n, rfl, rfl, hinv⟩ := hrel
      have hjle := hinv.le
      obtain ⟨n0, n1⟩ := hinv.bd (by omega)
      by_cases hj : j < b.length
      · have n2 := hinv.bd' (by omega) hj
        obtain ⟨hx, hy⟩ := HG.out j hj
        have hnx := hinv.next hj
        rw [← hy] at hnx
        have HN := Lib.hid hnx
        have hno := all_not b j hj
        rw [← hy] at hno
        have HO := Lib.hid hno
        clear hno hnx hinv hy
        cases hd : digB s[j] with
        | true =>
          have hc := (digB_iff _).1 hd
          obtain ⟨d0, d1⟩ := hc
          have HD := Lib.hid hd
          clear hd
          go_wp2_with fail
          refine (l01DigitU_any _ _).mono ?_
          rintro e w' ⟨rfl, rfl⟩
          rw [HD.out]
          go_wp2_with fail
          go_round
          case rel => exact ⟨j + 1, _, by go_num, rfl, HN.out HD.out⟩
          case measure => (simp [intOf] <;> omega)
        | false =>
          have HD := Lib.hid hd
          clear hd
          obtain ⟨e1, e2⟩ := none_v (no_digit s.data.toList (by rw [HB.out]; exact HO.out HD.out))
          have E1 := Lib.hid e1
          have E2 := Lib.hid e2
          clear e1 e2
          go_wp2_with fail
          refine (l01DigitU_any _ _).mono ?_
          rintro e w' ⟨rfl, rfl⟩
          rw [HD.out]
          go_wp2_with fail
          go_ret2
          exact ⟨ret_pair E1.out.symm E2.out.symm, rfl⟩
      · obtain rfl : j = b.length := by omega
        obtain ⟨v1, v2⟩ := hinv.done
        obtain ⟨e1, e2⟩ := some_v (HY.out v2)
        have E1 := Lib.hid e1
        have E2 := Lib.hid e2
        have V1 := Lib.hid v1
        clear e1 e2 v1 v2 hinv
        go_wp2_with fail
        go_ret2
        exact ⟨ret_pair (by rw [E1.out, V1.out]) E2.out.symm, rfl⟩

set_option maxRecDepth 100000 in
set_option maxHeartbeats 2000000 in
theorem l01Number_at1 (s : ByteArray) (w : World) (hmax : s.size ≤ 9223372036854775806) (hpos : 0 < s.size) (hsg : ((s[0].toNat : Int) == 45) = true) (b : List UInt8) (hb : bodyN s.data.toList = b)
    (hlen : b.length + 1 = s.size) (hget : ∀ (j : Nat) (h : j < b.length), ∃ h2, s[j + 1]'h2 = b[j]) :
    Calls Tryd.prog 106 #[.string s] w fun e w' => e = .returned (.tuple #[.int .i64 (numV s.data.toList), .bool (numOk s.data.toList)]) ∧ w = w' := by
  have hl := size_lenU s
  have hd0 : decide ((0 : Int) < (s.size : Int)) = true := by simp; omega
  by_cases c1 : s.size = 1
  · obtain ⟨e1, e2⟩ := none_v (no_empty s.data.toList (by rw [hb]; omega))
    rw [e1, e2]
    have c1' : ((s.size : Int) == 1) = true := by simp; omega
    clear e1 e2 hget hl hb hlen
    go_enter Tryd.func106, Tryd.ntmps106
    go_wp2_with fail
    go_ret2
    exact ⟨rfl, rfl⟩
  have c1' : ((s.size : Int) == 1) = false := by simp; omega
  by_cases c2 : 18 < b.length
  · obtain ⟨e1, e2⟩ := none_v (no_long s.data.toList (by rw [hb]; exact c2))
    rw [e1, e2]
    have c2' : decide ((18 : Int) < (s.size : Int) - 1) = true := by simp; omega
    clear e1 e2 hget hl hb
    go_enter Tryd.func106, Tryd.ntmps106
    go_wp2_with fail
    go_ret2
    exact ⟨rfl, rfl⟩
  have c2' : decide ((18 : Int) < (s.size : Int) - 1) = false := by simp; omega
  have hb0 : 0 < b.length := by omega
  obtain ⟨hA, hS⟩ := hget 0 hb0
  have hhd : b.head? = some (s[1]'hA) := by
    rw [List.head?_eq_getElem?, List.getElem?_eq_getElem hb0, ← hS]
  by_cases c3 : s[1] = 48 ∧ 1 < s.size
  · obtain ⟨e1, e2⟩ := none_v (no_zero s.data.toList (by rw [hb, hhd, c3.1]) (by omega))
    rw [e1, e2]
    have c3' : ((s[1].toNat : Int) == 48) = true := by simp [c3.1]
    have c3'' : decide ((1 : Int) < (s.size : Int)) = true := by simp; omega
    clear e1 e2 hget hl hb hS hhd c3
    go_enter Tryd.func106, Tryd.ntmps106
    go_wp2_with fail
    go_ret2
    exact ⟨rfl, rfl⟩
  have hyes : b.all digB = true → numI s.data.toList = some (-(valN b : Int)) := by
    intro hall
    have hy := yes_num s.data.toList (by rw [hb]; omega) (by rw [hb]; omega) (by rw [hb, hhd]; intro h; exact c3 ⟨Option.some.inj h.1, by have := h.2; omega⟩) (by rw [hb]; exact hall)
    rw [hb, head_of s hpos] at hy
    have hq := byte_eq s[0] 45 (by omega)
    have hq' : decide (s[0] = 45) = true := hq.symm.trans hsg
    have hq2 : s[0] = 45 := by simpa using hq'
    rw [if_pos (congrArg some hq2)] at hy
    exact hy
  by_cases c4 : s[1] = 48
  · exact absurd ⟨c4, by omega⟩ c3
  · have c4' : ((s[1].toNat : Int) == 48) = false := by
      rw [beq_eq_false_iff_ne]
      intro h
      apply c4
      apply UInt8.toNat_inj.1
      have : (48 : UInt8).toNat = 48 := rfl
      omega
    have HY := Lib.hid hyes
    clear hyes
    have HG := Lib.hid hget
    have HB := Lib.hid hb
    clear hget hl hb hS hhd c3 c4
    go_enter Tryd.func106, Tryd.ntmps106
    go_wp2_with fail
    go_loop [5, 6] (fun t i => ∃ (j : Nat) (n : Int), i = .int .i64 ((j + 1 : Nat) : Int) ∧ t = .int .i64 n ∧ NumInv b j n) (fun _ i => s.size - (intOf i).toNat)
    case atStart => exact ⟨0, 0, rfl, rfl, ⟨Nat.zero_le _, rfl, rfl⟩⟩
    case round =>
      obtain ⟨j, n, rfl, rfl, hinv⟩ := hrel
      have hjle := hinv.le
      obtain ⟨n0, n1⟩ := hinv.bd (by omega)
      by_cases hj : j < b.length
      · have n2 := hinv.bd' (by omega) hj
        obtain ⟨hx, hy⟩ := HG.out j hj
        have hnx := hinv.next hj
        rw [← hy] at hnx
        have HN := Lib.hid hnx
        have hno := all_not b j hj
        rw [← hy] at hno
        have HO := Lib.hid hno
        clear hno hnx hinv hy
        cases hd : digB s[j + 1] with
        | true =>
          have hc := (digB_iff _).1 hd
          obtain ⟨d0, d1⟩ := hc
          have HD := Lib.hid hd
          clear hd
          go_wp2_with fail
          refine (l01DigitU_any _ _).mono ?_
          rintro e w' ⟨rfl, rfl⟩
          rw [HD.out]
          go_wp2_with fail
          go_round
          case rel => exact ⟨j + 1, _, by go_num, rfl, HN.out HD.out⟩
          case measure => (simp [intOf] <;> omega)
        | false =>
          have HD := Lib.hid hd
          clear hd
          obtain ⟨e1, e2⟩ := none_v (no_digit s.data.toList (by rw [HB.out]; exact HO.out HD.out))
          have E1 := Lib.hid e1
          have E2 := Lib.hid e2
          clear e1 e2
          go_wp2_with fail
          refine (l01DigitU_any _ _).mono ?_
          rintro e w' ⟨rfl, rfl⟩
          rw [HD.out]
          go_wp2_with fail
          go_ret2
          exact ⟨ret_pair E1.out.symm E2.out.symm, rfl⟩
      · obtain rfl : j = b.length := by omega
        obtain ⟨v1, v2⟩ := hinv.done
        obtain ⟨e1, e2⟩ := some_v (HY.out v2)
        have E1 := Lib.hid e1
        have E2 := Lib.hid e2
        have V1 := Lib.hid v1
        clear e1 e2 v1 v2 hinv
        go_wp2_with fail
        go_ret2
        exact ⟨ret_pair (by rw [E1.out, V1.out]) E2.out.symm, rfl⟩

theorem body_plain (s : ByteArray) (hpos : 0 < s.size) (h : ((s[0].toNat : Int) == 45) = false) : bodyN s.data.toList = s.data.toList := by
  have hq : decide (s[0] = 45) = false := (byte_eq s[0] 45 (by omega)).symm.trans h
  unfold bodyN
  rw [head_of s hpos, if_neg (by intro e; rw [decide_eq_false_iff_not] at hq; exact hq (Option.some.inj e))]
theorem body_signed (s : ByteArray) (hpos : 0 < s.size) (h : ((s[0].toNat : Int) == 45) = true) : bodyN s.data.toList = s.data.toList.tail := by
  have hq : decide (s[0] = 45) = true := (byte_eq s[0] 45 (by omega)).symm.trans h
  unfold bodyN
  rw [head_of s hpos, if_pos (by rw [decide_eq_true_eq] at hq; rw [hq])]

set_option maxHeartbeats 400000 in
theorem l01Number_any (s : ByteArray) (w : World) (hmax : s.size ≤ 9223372036854775806) :
    Calls Tryd.prog 106 #[.string s] w fun e w' => e = .returned (.tuple #[.int .i64 (numV s.data.toList), .bool (numOk s.data.toList)]) ∧ w = w' := by
  have hl := size_lenU s
  by_cases c1 : s.size = 0
  · obtain rfl : s = ByteArray.empty := by simpa using c1
    clear c1 hl hmax
    go_enter Tryd.func106, Tryd.ntmps106
    go_wp2_with fail
    go_ret2
    exact ⟨rfl, rfl⟩
  · have hpos : 0 < s.size := by omega
    cases hsg : ((s[0].toNat : Int) == 45) with
    | false => exact l01Number_at0 s w hmax hpos hsg s.data.toList (body_plain s hpos hsg) (by omega) (fun j h => ⟨by omega, rfl⟩)
    | true => exact l01Number_at1 s w hmax hpos hsg s.data.toList.tail (body_signed s hpos hsg) (by rw [List.length_tail]; omega) (fun j h => ⟨by rw [List.length_tail] at h; omega, by rw [List.getElem_tail]; rfl⟩)

end Go.Proofs.YtjghopepgfgebaaDoor
