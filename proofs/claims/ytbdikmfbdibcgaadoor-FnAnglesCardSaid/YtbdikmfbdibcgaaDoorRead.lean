/-
  ReadDecimal of package impl: its contract, from those of strings.TrimPrefix, strconv.ParseInt and Decimal.
-/
import Derived.Test.YtbdikmfbdibcgaaDoorNum
import Derived.WideLaws
import Derived.Shelf.Strconv.ErrVarParseInt
import Derived.Lib.SmallJoins
namespace Go.Proofs.YtbdikmfbdibcgaaDoor
open Go.RowKit

/-- The two error variables of strconv hold errors. -/
def ErrOK (w : World) : Prop := (∃ tp p, w.var? Tryd.prog "strconv.ErrSyntax" = some #[.iface tp p]) ∧ (∃ tp p, w.var? Tryd.prog "strconv.ErrRange" = some #[.iface tp p])
theorem gErrS : Tryd.prog.globalNamed "strconv.ErrSyntax" = some 2 := by kernel_rfl
theorem gErrR : Tryd.prog.globalNamed "strconv.ErrRange" = some 3 := by kernel_rfl
theorem ErrOK.below {w w' : World} (h : ErrOK w) (hb : Below w.heap.size w w') : ErrOK w' := by
  obtain ⟨⟨a, b, h1⟩, c, d, h2⟩ := h
  exact ⟨⟨a, b, var?_below hb gErrS (lt_of_var gErrS h1) h1⟩, c, d, var?_below hb gErrR (lt_of_var gErrR h2) h2⟩

/-- ParseInt found no number: an error that is not nil. -/
def BadPost (w : World) (e : Ending) (w' : World) : Prop := ∃ (v : Int) (a : Addr), e = .returned (.tuple #[.int .i64 v, .iface 78 (.pointer (some a))]) ∧ Below w.heap.size w w'
theorem parse_bad (s : ByteArray) (w : World) (hs : s.size ≤ 1048576) (he : ErrOK w) (h : ∀ v, Lib.parseIntB 64 s.data.toList ≠ .ok v) :
    Calls Tryd.prog 38 #[.string s, .int .i64 10, .int .i64 64] w (BadPost w) := by
  obtain ⟨⟨a, b, h1⟩, c, d, h2⟩ := he
  cases hr : Lib.parseIntB 64 s.data.toList
  · exact absurd hr (h _)
  · exact (Any.strconv_ParseInt_10_at64_syntax_var Tryd.laysC174 s (by omega) hr a b w h1).mono fun e w' ⟨N, h1, _, _, h3⟩ => ⟨_, _, h1, h3⟩
  · exact (Any.strconv_ParseInt_10_at64_range_var Tryd.laysC174 s (by omega) hr c d w h2).mono fun e w' ⟨N, h1, _, _, h3⟩ => ⟨_, _, h1, h3⟩
theorem parse_good (s : ByteArray) (w : World) (hs : s.size ≤ 1048576) (v : Int) (h : Lib.parseIntB 64 s.data.toList = .ok v) :
    Calls Tryd.prog 38 #[.string s, .int .i64 10, .int .i64 64] w fun e w' => e = .returned (.tuple #[.int .i64 v, .nilIface]) ∧ Below w.heap.size w w' := by
  refine (Any.strconv_ParseInt_10_at64_ok Tryd.laysC174 s (by omega) v h w).mono fun e w' ⟨h1, h2⟩ => ⟨h1, ?_⟩
  rcases h2 with rfl | ⟨t, rfl⟩
  · exact Below.refl _ _
  · exact Go.Joins.below_bytesWorld _ _ _ _ (Nat.le_refl _)

theorem parse_fits (l : List UInt8) (v : Int) (h : Lib.parseIntB 64 l = .ok v) : -9223372036854775808 ≤ v ∧ v ≤ 9223372036854775807 := by
  cases l with
  | nil => simp [Lib.parseIntB] at h
  | cons c r =>
    simp only [Lib.parseIntB] at h
    cases hu : Lib.parseUintB 64 (if c.toNat = 43 ∨ c.toNat = 45 then r else c :: r) with
    | ok u =>
      rw [hu] at h
      simp only at h
      split at h
      · cases h
      · rename_i h1
        split at h
        · cases h
        · rename_i h2
          have hv : v = if c.toNat = 45 then -(u : Int) else u := by
            have := Lib.NumEnd.ok.inj h
            exact this.symm
          rw [hv]
          split <;> rename_i h3 <;> simp [h3] at h1 h2 <;> omega
    | _ => rw [hu] at h; cases h
theorem trim_body (l : List UInt8) : Lib.trimPrefix l [45] = bodyN l := by
  unfold Lib.trimPrefix Lib.hasPrefix bodyN
  cases l with
  | nil => rfl
  | cons c r =>
    by_cases h : c = 45
    · subst h; rfl
    · have h1 : ([45] : List UInt8).isPrefixOf (c :: r) = false := by simp [List.isPrefixOf]; exact fun e => h e.symm
      have h2 : ¬ (c :: r).head? = some 45 := by simpa using h
      rw [h1, if_neg h2]; rfl
theorem str_eq (s : ByteArray) (l : List UInt8) (h : s.data.toList = l) : s = ⟨l.toArray⟩ := by subst h; rfl

end Go.Proofs.YtbdikmfbdibcgaaDoor
