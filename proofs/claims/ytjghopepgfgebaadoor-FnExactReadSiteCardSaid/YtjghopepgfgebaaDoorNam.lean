/-
  Names: the contracts of isSmallLetter, isDigit, IsName (package impl) and of l01Small, l01Digit, l01Name, IsName (package spec).
-/
import Derived.Test.YtjghopepgfgebaaDoorCore3
namespace Go.Proofs.YtjghopepgfgebaaDoor
open Go.RowKit

def smallB (c : Int) : Bool := inR 97 122 [c]
def digitB (c : Int) : Bool := inR 48 57 [c]
def okB (c : UInt8) : Bool := smallB (c.toNat : Int) || digitB (c.toNat : Int)

set_option maxHeartbeats 400000 in
theorem isSmall_any (c : Int) (w : World) :
    Calls Tryd.prog 101 #[.int .u8 c] w fun e w' => e = .returned (.bool (smallB c)) ∧ Below w.heap.size w w' := by
  unfold smallB
  go_enter Tryd.func101, Tryd.ntmps101
  go_wp2_with fail
  refine (within8 _ _ _ _ _ _ [c] _ rfl (by simp) (cells_1 _ _ _ _)).mono ?_
  rintro e w' ⟨rfl, rfl⟩
  go_wp2_with fail
  go_ret
  exact ⟨rfl, (Below.refl _ _).alloc (Nat.le_refl _) _⟩
set_option maxHeartbeats 400000 in
theorem isDigit_any (c : Int) (w : World) :
    Calls Tryd.prog 102 #[.int .u8 c] w fun e w' => e = .returned (.bool (digitB c)) ∧ Below w.heap.size w w' := by
  unfold digitB
  go_enter Tryd.func102, Tryd.ntmps102
  go_wp2_with fail
  refine (within8 _ _ _ _ _ _ [c] _ rfl (by simp) (cells_1 _ _ _ _)).mono ?_
  rintro e w' ⟨rfl, rfl⟩
  go_wp2_with fail
  go_ret
  exact ⟨rfl, (Below.refl _ _).alloc (Nat.le_refl _) _⟩
set_option maxHeartbeats 400000 in
theorem l01Small_any (c : Int) (w : World) :
    Calls Tryd.prog 64 #[.int .u8 c] w fun e w' => e = .returned (.bool (smallB c)) ∧ w = w' := by
  have e1 : smallB c = (decide (97 ≤ c) && decide (c ≤ 122)) := by simp [smallB, inR]
  rw [e1]
  by_cases h : 97 ≤ c
  · have h' : decide (97 ≤ c) = true := by simpa using h
    rw [h', Bool.true_and]
    go_enter Tryd.func64, Tryd.ntmps64
    go_wp2_with fail
    go_ret
    exact ⟨rfl, rfl⟩
  · have h' : decide (97 ≤ c) = false := by simpa using h
    rw [h', Bool.false_and]
    go_enter Tryd.func64, Tryd.ntmps64
    go_wp2_with fail
    go_ret
    exact ⟨rfl, rfl⟩
set_option maxHeartbeats 400000 in
theorem l01Digit_any (c : Int) (w : World) :
    Calls Tryd.prog 65 #[.int .u8 c] w fun e w' => e = .returned (.bool (digitB c)) ∧ w = w' := by
  have e1 : digitB c = (decide (48 ≤ c) && decide (c ≤ 57)) := by simp [digitB, inR]
  rw [e1]
  by_cases h : 48 ≤ c
  · have h' : decide (48 ≤ c) = true := by simpa using h
    rw [h', Bool.true_and]
    go_enter Tryd.func65, Tryd.ntmps65
    go_wp2_with fail
    go_ret
    exact ⟨rfl, rfl⟩
  · have h' : decide (48 ≤ c) = false := by simpa using h
    rw [h', Bool.false_and]
    go_enter Tryd.func65, Tryd.ntmps65
    go_wp2_with fail
    go_ret
    exact ⟨rfl, rfl⟩

/-- Whether bytes are a name. -/
def nameB : List UInt8 → Bool
  | [] => false
  | c :: cs => decide (cs.length < 10) && (smallB (c.toNat : Int) && (c :: cs).all okB)

theorem take_snoc (s : ByteArray) (k : Nat) (h : k < s.size) : s.data.toList.take (k + 1) = s.data.toList.take k ++ [s[k]] := by
  rw [List.take_succ_eq_append_getElem (by simpa using h)]; rfl

theorem size_len (s : ByteArray) : s.data.toList.length = s.size := Array.length_toList
theorem nameB_long (s : ByteArray) (h : 10 < s.size) : nameB s.data.toList = false := by
  have e := size_len s
  cases hl : s.data.toList with
  | nil => rfl
  | cons c cs =>
    rw [hl, List.length_cons] at e
    have : decide (cs.length < 10) = false := by simp; omega
    simp only [nameB, this, Bool.false_and]
def allB (l : List UInt8) : Bool := l.all okB
theorem nameB_list (l : List UInt8) (h0 : 0 < l.length) (h : l.length ≤ 10) : nameB l = (smallB (l[0].toNat : Int) && allB l) := by
  cases l with
  | nil => simp at h0
  | cons c cs =>
    rw [List.length_cons] at h
    have : decide (cs.length < 10) = true := by simp; omega
    simp only [nameB, this, Bool.true_and, List.getElem_cons_zero, allB]
theorem nameB_short (s : ByteArray) (h0 : 0 < s.size) (h : s.size ≤ 10) : nameB s.data.toList = (smallB (s[0].toNat : Int) && allB s.data.toList) := by
  have e := size_len s
  exact nameB_list s.data.toList (by omega) (by omega)
theorem all_stop (l : List UInt8) (k : Nat) (h : k < l.length) (hc : okB l[k] = false) : allB l = false := by
  unfold allB
  rw [List.all_eq_false]
  exact ⟨l[k], List.getElem_mem h, by simp [hc]⟩
theorem all_go (s : ByteArray) (k : Nat) (h : k < s.size) (h1 : allB (s.data.toList.take k) = true) (h2 : okB s[k] = true) : allB (s.data.toList.take (k + 1)) = true := by
  unfold allB at *
  rw [take_snoc s k h, List.all_append, h1]
  simp [h2]

set_option maxHeartbeats 1000000 in
theorem l01Name_any (s : ByteArray) (w : World) :
    Calls Tryd.prog 36 #[.string s] w fun e w' => e = .returned (.bool (nameB s.data.toList)) ∧ w = w' := by
  by_cases c1 : s.size = 0
  · obtain rfl : s = ByteArray.empty := by simpa using c1
    clear c1
    go_enter Tryd.func36, Tryd.ntmps36
    go_wp2_with fail
    go_ret
    exact ⟨rfl, rfl⟩
  · have hE : s.toList.isEmpty = false := by
      rw [ByteArray.toList_eq, List.isEmpty_eq_false_iff]
      intro h
      have := size_len s
      rw [h] at this
      simp at this
      omega
    have hE' : ¬ s.toList = [] := by
      intro h
      rw [h] at hE
      simp at hE
    have hpos : 0 < s.size := by omega
    by_cases c2 : 10 < s.size
    · rw [nameB_long s c2]
      have c2' : decide ((10 : Int) < (s.size : Int)) = true := by simp; omega
      go_enter Tryd.func36, Tryd.ntmps36
      go_wp2_with fail
      go_ret
      exact ⟨rfl, rfl⟩
    · have c2' : decide ((10 : Int) < (s.size : Int)) = false := by simp; omega
      rw [nameB_short s hpos (by omega)]
      cases hs : smallB (s[0].toNat : Int) with
      | false =>
        have HS := Lib.hid hs
        clear hs
        rw [Bool.false_and]
        go_enter Tryd.func36, Tryd.ntmps36
        go_wp2_with fail
        refine (l01Small_any _ _).mono ?_
        rintro e w' ⟨rfl, rfl⟩
        rw [HS.out]
        go_wp2_with fail
        go_ret
        exact ⟨rfl, rfl⟩
      | true =>
        have HS := Lib.hid hs
        clear hs
        rw [Bool.true_and]
        go_enter Tryd.func36, Tryd.ntmps36
        go_wp2_with fail
        refine (l01Small_any _ _).mono ?_
        rintro e w' ⟨rfl, rfl⟩
        rw [HS.out]
        go_wp2_with fail
        go_loop [3] (fun i => ∃ k : Nat, k ≤ s.size ∧ i = .int .i64 k ∧ allB (s.data.toList.take k) = true) (fun i => s.size - (intOf i).toNat)
        case atStart => exact ⟨0, Nat.zero_le _, rfl, rfl⟩
        case round =>
          obtain ⟨k, hk, rfl, hall⟩ := hrel
          have HA := Lib.hid hall
          clear hall
          by_cases hlt : k < s.size
          · have hgo := all_go s k hlt HA.out
            have hst := all_stop s.data.toList k (by rw [size_len]; exact hlt)
            have hgo' : (smallB (s[k].toNat : Int) || digitB (s[k].toNat : Int)) = true → allB (s.data.toList.take (k + 1)) = true := hgo
            have hst' : (smallB (s[k].toNat : Int) || digitB (s[k].toNat : Int)) = false → allB s.data.toList = false := hst
            have HG := Lib.hid hgo'
            have HT := Lib.hid hst'
            clear hgo hst hgo' hst'
            cases hs2 : smallB (s[k].toNat : Int) with
            | true =>
              rw [hs2] at HG HT
              have H2 := Lib.hid hs2
              clear hs2
              go_wp2_with fail
              refine (l01Small_any _ _).mono ?_
              rintro e w' ⟨rfl, rfl⟩
              rw [H2.out]
              go_wp2_with fail
              go_round
              case rel => exact ⟨k + 1, by omega, by go_num, HG.out rfl⟩
              case measure => (simp [intOf] <;> omega)
            | false =>
              rw [hs2] at HG HT
              have H2 := Lib.hid hs2
              clear hs2
              cases hd2 : digitB (s[k].toNat : Int) with
              | true =>
                rw [hd2] at HG
                have H3 := Lib.hid hd2
                clear hd2
                go_wp2_with fail
                refine (l01Small_any _ _).mono ?_
                rintro e w' ⟨rfl, rfl⟩
                rw [H2.out]
                go_wp2_with fail
                refine (l01Digit_any _ _).mono ?_
                rintro e w' ⟨rfl, rfl⟩
                rw [H3.out]
                go_wp2_with fail
                go_round
                case rel => exact ⟨k + 1, by omega, by go_num, HG.out rfl⟩
                case measure => (simp [intOf] <;> omega)
              | false =>
                rw [hd2] at HT
                have H3 := Lib.hid hd2
                clear hd2
                go_wp2_with fail
                refine (l01Small_any _ _).mono ?_
                rintro e w' ⟨rfl, rfl⟩
                rw [H2.out]
                go_wp2_with fail
                refine (l01Digit_any _ _).mono ?_
                rintro e w' ⟨rfl, rfl⟩
                rw [H3.out]
                go_wp2_with fail
                go_ret
                exact ⟨ret_bool (HT.out rfl).symm, rfl⟩
          · have e1 : s.data.toList.take k = s.data.toList := List.take_of_length_le (by rw [size_len]; omega)
            rw [e1] at HA
            clear e1
            go_wp2_with fail
            go_ret
            exact ⟨ret_bool HA.out.symm, rfl⟩

theorem inR_size (s : ByteArray) : inR 1 10 [(s.size : Int)] = (decide (0 < s.size) && decide (s.size ≤ 10)) := by
  unfold inR
  simp [List.all_cons]
  congr 1 <;> simp <;> omega

set_option maxHeartbeats 1000000 in
theorem implName_any (s : ByteArray) (w : World) (hmax : s.size ≤ 9223372036854775807) :
    Calls Tryd.prog 71 #[.string s] w fun e w' => e = .returned (.bool (nameB s.data.toList)) ∧ Below w.heap.size w w' := by
  cases hin : inR 1 10 [(s.size : Int)] with
  | false =>
    have e : nameB s.data.toList = false := by
      rw [inR_size] at hin
      by_cases c : 10 < s.size
      · exact nameB_long s c
      · have : s.size = 0 := by
          simp at hin
          omega
        obtain rfl : s = ByteArray.empty := by simpa using this
        rfl
    rw [e]
    have HI := Lib.hid hin
    clear hin e
    go_enter Tryd.func71, Tryd.ntmps71
    go_wp2_with fail
    refine (withinInt _ _ _ _ _ _ [(s.size : Int)] _ rfl (by simp) (cells_1 _ _ _ _)).mono ?_
    rintro e w' ⟨rfl, rfl⟩
    rw [HI.out]
    go_wp2_with fail
    go_ret
    exact ⟨rfl, (Below.refl _ _).alloc (Nat.le_refl _) _⟩
  | true =>
    have hin2 := hin
    rw [inR_size, Bool.and_eq_true, decide_eq_true_eq, decide_eq_true_eq] at hin2
    obtain ⟨hpos, hle⟩ := hin2
    have HI := Lib.hid hin
    clear hin
    rw [nameB_short s hpos hle]
    cases hs : smallB (s[0].toNat : Int) with
    | false =>
      have HS := Lib.hid hs
      clear hs
      rw [Bool.false_and]
      go_enter Tryd.func71, Tryd.ntmps71
      go_wp2_with fail
      refine (withinInt _ _ _ _ _ _ [(s.size : Int)] _ rfl (by simp) (cells_1 _ _ _ _)).mono ?_
      rintro e w' ⟨rfl, rfl⟩
      rw [HI.out]
      go_wp2_with fail
      refine (isSmall_any _ _).mono ?_
      rintro e w1 ⟨rfl, hg⟩
      rw [HS.out]
      have g1 := ((Below.refl _ w).alloc (Nat.le_refl _) _).trans (hg.mono (by simp))
      clear hg
      go_wp2_with fail
      go_ret
      exact ⟨rfl, g1⟩
    | true =>
      have HS := Lib.hid hs
      clear hs
      rw [Bool.true_and]
      go_enter Tryd.func71, Tryd.ntmps71
      go_wp2_with fail
      refine (withinInt _ _ _ _ _ _ [(s.size : Int)] _ rfl (by simp) (cells_1 _ _ _ _)).mono ?_
      rintro e w' ⟨rfl, rfl⟩
      rw [HI.out]
      go_wp2_with fail
      refine (isSmall_any _ _).mono ?_
      rintro e w1 ⟨rfl, hg⟩
      rw [HS.out]
      have g1 := ((Below.refl _ w).alloc (Nat.le_refl _) _).trans (hg.mono (by simp))
      clear hg
      go_wp2_with fail
      go_loopw [17] (fun i wr => ∃ k : Nat, k ≤ s.size ∧ i = .int .i64 k ∧ allB (s.data.toList.take k) = true ∧ Below w.heap.size w wr) (fun i _ => s.size - (intOf i).toNat)
      case atStart => exact ⟨0, Nat.zero_le _, rfl, rfl, g1⟩
      case round =>
        obtain ⟨k, hk, rfl, hall, hg⟩ := hrel
        have HA := Lib.hid hall
        clear hall
        by_cases hlt : k < s.size
        · have hgo := all_go s k hlt HA.out
          have hst := all_stop s.data.toList k (by rw [size_len]; exact hlt)
          have hgo' : (smallB (s[k].toNat : Int) || digitB (s[k].toNat : Int)) = true → allB (s.data.toList.take (k + 1)) = true := hgo
          have hst' : (smallB (s[k].toNat : Int) || digitB (s[k].toNat : Int)) = false → allB s.data.toList = false := hst
          have HG := Lib.hid hgo'
          have HT := Lib.hid hst'
          clear hgo hst hgo' hst'
          cases hs2 : smallB (s[k].toNat : Int) with
          | true =>
            rw [hs2] at HG HT
            have H2 := Lib.hid hs2
            clear hs2
            go_wp2_with fail
            refine (isSmall_any _ _).mono ?_
            rintro e w2 ⟨rfl, hg2⟩
            rw [H2.out]
            have g2 := hg.trans (hg2.mono hg.size)
            clear hg2
            go_wp2_with fail
            go_roundw
            case rel => exact ⟨k + 1, by omega, by go_num, HG.out rfl, g2⟩
            case measure => (simp [intOf] <;> omega)
          | false =>
            rw [hs2] at HG HT
            have H2 := Lib.hid hs2
            clear hs2
            cases hd2 : digitB (s[k].toNat : Int) with
            | true =>
              rw [hd2] at HG
              have H3 := Lib.hid hd2
              clear hd2
              go_wp2_with fail
              refine (isSmall_any _ _).mono ?_
              rintro e w2 ⟨rfl, hg2⟩
              rw [H2.out]
              have g2 := hg.trans (hg2.mono hg.size)
              clear hg2
              go_wp2_with fail
              refine (isDigit_any _ _).mono ?_
              rintro e w3 ⟨rfl, hg3⟩
              rw [H3.out]
              have g3 := g2.trans (hg3.mono g2.size)
              clear hg3
              go_wp2_with fail
              go_roundw
              case rel => exact ⟨k + 1, by omega, by go_num, HG.out rfl, g3⟩
              case measure => (simp [intOf] <;> omega)
            | false =>
              rw [hd2] at HT
              have H3 := Lib.hid hd2
              clear hd2
              go_wp2_with fail
              refine (isSmall_any _ _).mono ?_
              rintro e w2 ⟨rfl, hg2⟩
              rw [H2.out]
              have g2 := hg.trans (hg2.mono hg.size)
              clear hg2
              go_wp2_with fail
              refine (isDigit_any _ _).mono ?_
              rintro e w3 ⟨rfl, hg3⟩
              rw [H3.out]
              have g3 := g2.trans (hg3.mono g2.size)
              clear hg3
              go_wp2_with fail
              go_ret
              exact ⟨ret_bool (HT.out rfl).symm, g3⟩
        · have e1 : s.data.toList.take k = s.data.toList := List.take_of_length_le (by rw [size_len]; omega)
          rw [e1] at HA
          clear e1
          go_wp2_with fail
          go_ret
          exact ⟨ret_bool HA.out.symm, hg⟩

end Go.Proofs.YtjghopepgfgebaaDoor
