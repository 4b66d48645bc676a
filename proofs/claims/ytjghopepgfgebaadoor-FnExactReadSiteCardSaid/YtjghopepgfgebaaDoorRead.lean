/-
  ReadDecimal of package impl: its contract, from those of strings.TrimPrefix, strconv.ParseInt and Decimal.
-/
import Derived.Test.YtjghopepgfgebaaDoorNum
import Derived.WideLaws
import Derived.Shelf.Strconv.ErrVarParseInt
import Derived.Lib.SmallJoins
namespace Go.Proofs.YtjghopepgfgebaaDoor
open Go.RowKit

/-- The two error variables of strconv hold errors. -/
def ErrOK (w : World) : Prop := (∃ tp p, w.var? Tryd.prog "strconv.ErrSyntax" = some #[.iface tp p]) ∧ (∃ tp p, w.var? Tryd.prog "strconv.ErrRange" = some #[.iface tp p])
theorem gErrS : Tryd.prog.globalNamed "strconv.ErrSyntax" = some 0 := by kernel_rfl
theorem gErrR : Tryd.prog.globalNamed "strconv.ErrRange" = some 1 := by kernel_rfl
theorem ErrOK.below {w w' : World} (h : ErrOK w) (hb : Below w.heap.size w w') : ErrOK w' := by
  obtain ⟨⟨a, b, h1⟩, c, d, h2⟩ := h
  exact ⟨⟨a, b, var?_below hb gErrS (lt_of_var gErrS h1) h1⟩, c, d, var?_below hb gErrR (lt_of_var gErrR h2) h2⟩

/-- ParseInt found no number: an error that is not nil. -/
def BadPost (w : World) (e : Ending) (w' : World) : Prop := ∃ (v : Int) (a : Addr), e = .returned (.tuple #[.int .i64 v, .iface 135 (.pointer (some a))]) ∧ Below w.heap.size w w'
theorem parse_bad (s : ByteArray) (w : World) (hs : s.size ≤ 1048576) (he : ErrOK w) (h : ∀ v, Lib.parseIntB 64 s.data.toList ≠ .ok v) :
    Calls Tryd.prog 61 #[.string s, .int .i64 10, .int .i64 64] w (BadPost w) := by
  obtain ⟨⟨a, b, h1⟩, c, d, h2⟩ := he
  cases hr : Lib.parseIntB 64 s.data.toList
  · exact absurd hr (h _)
  · exact (Any.strconv_ParseInt_10_at64_syntax_var Tryd.laysC174 s (by omega) hr a b w h1).mono fun e w' ⟨N, h1, _, _, h3⟩ => ⟨_, _, h1, h3⟩
  · exact (Any.strconv_ParseInt_10_at64_range_var Tryd.laysC174 s (by omega) hr c d w h2).mono fun e w' ⟨N, h1, _, _, h3⟩ => ⟨_, _, h1, h3⟩
theorem parse_good (s : ByteArray) (w : World) (hs : s.size ≤ 1048576) (v : Int) (h : Lib.parseIntB 64 s.data.toList = .ok v) :
    Calls Tryd.prog 61 #[.string s, .int .i64 10, .int .i64 64] w fun e w' => e = .returned (.tuple #[.int .i64 v, .nilIface]) ∧ Below w.heap.size w w' := by
  refine (Any.strconv_ParseInt_10_at64_ok Tryd.laysC174 s (by omega) v h w).mono fun e w' ⟨h1, h2⟩ => ⟨h1, ?_⟩
  rcases h2 with rfl | ⟨t, rfl⟩
  · exact Below.refl _ _
  · exact Go.Joins.below_bytesWorld _ _ _ _ (Nat.le_refl _)

theorem parse_fits (l : List UInt8) (v : Int) (h : Lib.parseIntB 64 l = .ok v) : -9223372036854775808 ≤ v ∧ v ≤ 9223372036854775807 := by
  cases l with
  | nil => simp [Lib.parseIntB] at h
  | cons c r =>
    simp only [Lib.parseIntB] at h
    cases hu : Lib.parseUintB 64 (if c.toNat = 43 ∨ c.toNat = 45 then r else c :: r) with
    | ok u =>
      rw [hu] at h
      simp only at h
      split at h
      · cases h
      · rename_i h1
        split at h
        · cases h
        · rename_i h2
          have hv : v = if c.toNat = 45 then -(u : Int) else u := by
            have := Lib.NumEnd.ok.inj h
            exact this.symm
          rw [hv]
          split <;> rename_i h3 <;> simp [h3] at h1 h2 <;> omega
    | _ => rw [hu] at h; cases h
theorem trim_body (l : List UInt8) : Lib.trimPrefix l [45] = bodyN l := by
  unfold Lib.trimPrefix Lib.hasPrefix bodyN
  cases l with
  | nil => rfl
  | cons c r =>
    by_cases h : c = 45
    · subst h; rfl
    · have h1 : ([45] : List UInt8).isPrefixOf (c :: r) = false := by simp [List.isPrefixOf]; exact fun e => h e.symm
      have h2 : ¬ (c :: r).head? = some 45 := by simpa using h
      rw [h1, if_neg h2]; rfl
theorem str_eq (s : ByteArray) (l : List UInt8) (h : s.data.toList = l) : s = ⟨l.toArray⟩ := by subst h; rfl

set_option maxRecDepth 100000 in
set_option maxHeartbeats 1000000 in
theorem implRead_any (s : ByteArray) (w : World) (hs : s.size ≤ 1048576) (ht : TabOK w) (he : ErrOK w) :
    Calls Tryd.prog 32 #[.string s] w fun e w' => e = .returned (.tuple #[.int .i64 (numV s.data.toList), .bool (numOk s.data.toList)]) ∧ Below w.heap.size w w' := by
  have htr : Lib.trimPrefix s.data.toList ([45] : List UInt8) = bodyN s.data.toList := trim_body _
  have hbl : (bodyN s.data.toList).length ≤ s.size := by
    have := size_lenU s
    unfold bodyN
    split
    · rw [List.length_tail]; omega
    · omega
  by_cases c1 : 18 < (bodyN s.data.toList).length
  · obtain ⟨e1, e2⟩ := none_v (no_long s.data.toList c1)
    rw [e1, e2]
    have HT := Lib.hid htr
    clear e1 e2 htr
    generalize bodyN s.data.toList = b at *
    go_enter Tryd.func32, Tryd.ntmps32
    go_wp2_with fail
    refine (Tryd.strings_TrimPrefix _ _ _).mono ?_
    rintro e w' ⟨rfl, rfl⟩
    rw [show (ByteArray.mk #[45]).data.toList = [45] from rfl, HT.out]
    go_wp2_with fail
    go_ret2
    exact ⟨rfl, Below.refl _ _⟩
  have c1' : decide ((18 : Int) < ((bodyN s.data.toList).length : Int)) = false := by simp; omega
  cases hn : numI s.data.toList with
  | some n =>
    obtain ⟨e1, e2⟩ := some_v hn
    rw [e1, e2]
    have hp := parse_num _ _ hn
    obtain ⟨f0, f1⟩ := parse_fits _ _ hp
    have hse := str_eq s _ (numI_itoa _ _ hn)
    have HS := Lib.hid hse
    have HP := Lib.hid hp
    have HT := Lib.hid htr
    clear e1 e2 htr hn hse hp hbl c1
    generalize bodyN s.data.toList = b at *
    go_enter Tryd.func32, Tryd.ntmps32
    go_wp2_with fail
    refine (Tryd.strings_TrimPrefix _ _ _).mono ?_
    rintro e w' ⟨rfl, rfl⟩
    rw [show (ByteArray.mk #[45]).data.toList = [45] from rfl, HT.out]
    go_wp2_with fail
    refine (parse_good s _ hs n HP.out).mono ?_
    rintro e w2 ⟨rfl, hb2⟩
    go_wp2_with fail
    refine (implDec_any n _ f0 f1 (ht.below hb2)).mono ?_
    rintro e w3 ⟨rfl, hb3⟩
    rw [← HS.out]
    have hb := hb2.trans (hb3.mono hb2.size)
    clear hb2 hb3 he ht
    go_wp2_with fail
    go_ret2
    exact ⟨rfl, hb⟩
  | none =>
    obtain ⟨e1, e2⟩ := none_v hn
    rw [e1, e2]
    by_cases hok : ∃ v, Lib.parseIntB 64 s.data.toList = .ok v
    · obtain ⟨v, hp⟩ := hok
      obtain ⟨f0, f1⟩ := parse_fits _ _ hp
      have hne : ¬ (Lib.itoa v) = s.data.toList := by
        intro h
        have := numI_of v (by rw [h]; omega)
        rw [h, hn] at this
        cases this
      have hne' : ((Lib.itoa v) == s.toList) = false := by
        rw [ByteArray.toList_eq]
        exact beq_eq_false_iff_ne.2 hne
      have HP := Lib.hid hp
      have HT := Lib.hid htr
      clear e1 e2 htr hn hp hbl c1 hne
      generalize bodyN s.data.toList = b at *
      go_enter Tryd.func32, Tryd.ntmps32
      go_wp2_with fail
      refine (Tryd.strings_TrimPrefix _ _ _).mono ?_
      rintro e w' ⟨rfl, rfl⟩
      rw [show (ByteArray.mk #[45]).data.toList = [45] from rfl, HT.out]
      go_wp2_with fail
      refine (parse_good s _ hs v HP.out).mono ?_
      rintro e w2 ⟨rfl, hb2⟩
      go_wp2_with fail
      refine (implDec_any v _ f0 f1 (ht.below hb2)).mono ?_
      rintro e w3 ⟨rfl, hb3⟩
      have hb := hb2.trans (hb3.mono hb2.size)
      clear hb2 hb3 he ht
      go_wp2_with fail
      all_goals trace_state
      go_ret2
      exact ⟨rfl, hb⟩
    · have hbad : ∀ v, Lib.parseIntB 64 s.data.toList ≠ .ok v := fun v h => hok ⟨v, h⟩
      have HP := Lib.hid hbad
      have HT := Lib.hid htr
      clear e1 e2 htr hn hbad hok hbl c1
      generalize bodyN s.data.toList = b at *
      go_enter Tryd.func32, Tryd.ntmps32
      go_wp2_with fail
      refine (Tryd.strings_TrimPrefix _ _ _).mono ?_
      rintro e w' ⟨rfl, rfl⟩
      rw [show (ByteArray.mk #[45]).data.toList = [45] from rfl, HT.out]
      go_wp2_with fail
      refine (parse_bad s _ hs he HP.out).mono ?_
      rintro e w2 ⟨v, a, rfl, hb2⟩
      clear ht he
      go_wp2_with fail
      go_ret2
      exact ⟨rfl, hb2⟩
end Go.Proofs.YtjghopepgfgebaaDoor
