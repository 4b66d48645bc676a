/-
  A name and numbers as a text: the contracts of namedNumbersText, readNumbers, readNamedNumbers (package impl).
-/
import Derived.Test.YtmemmbealfghcaaDoorText
import Derived.Test.YtmemmbealfghcaaDoorCutM
import Derived.Test.YtmemmbealfghcaaDoorCore
namespace Go.Proofs.YtmemmbealfghcaaDoor
open Go.RowKit
set_option linter.unusedVariables false

theorem data_ofD (t : List UInt8) : (⟨t.toArray⟩ : ByteArray).data.toList = t := by simp
set_option maxRecDepth 100000 in
set_option maxHeartbeats 1000000 in
theorem readNums_any (s : ByteArray) (k : Nat) (hk : k ≤ 64) (hs : s.size ≤ 1048576) (w : World) (ht : TabOK w) (he : ErrOK w) (hlen : LenOK w) :
    Calls Tryd.prog 14 #[.string s, .int .i64 (k : Int)] w (ListPost (listN k s.data.toList) w) := by
  have L := Lib.hid (implList_any s w hs ht he hlen)
  unfold listN
  clear ht he hlen
  cases hr : listR s.data.toList with
  | none =>
    rw [hr] at L
    clear hr
    go_enter Tryd.func14, Tryd.ntmps14
    go_wp2_with fail
    refine (L.out).mono ?_
    rintro e w1 ⟨v, rfl, hown, hb⟩
    simp only [Option.isSome_none, Option.getD_none, List.map_nil, List.length_nil] at hown ⊢
    have HO := Lib.hid hown
    have HB := Lib.hid hb
    clear hown hb
    go_wp2_with fail
    go_ret2
    exact list_none HB.out rfl
  | some zs =>
    rw [hr] at L
    clear hr
    by_cases hl : zs.length = k
    · simp only [if_pos hl]
      subst hl
      have hl' : ((zs.length : Int) != (zs.length : Int)) = false := by simp
      go_enter Tryd.func14, Tryd.ntmps14
      go_wp2_with fail
      refine (L.out).mono ?_
      rintro e w1 ⟨v, rfl, hown, hb⟩
      simp only [Option.isSome_some, Option.getD_some] at hown ⊢
      have HB := Lib.hid hb
      clear hb
      rcases Go.Joins.ownsRow_forms hown with ⟨rfl, hz⟩ | ⟨gg, cap2, rfl⟩
      · have HO := Lib.hid hown
        clear hown
        have hl0 : (zs.length : Int) = 0 := by omega
        go_wp2_with fail
        go_ret2
        exact list_some HB.out rfl rfl HO.out
      · have HO := Lib.hid hown
        clear hown
        go_wp2_with fail
        go_ret2
        exact list_some HB.out rfl rfl HO.out
    · simp only [if_neg hl]
      have hl' : ((zs.length : Int) != (k : Int)) = true := by simp; omega
      have hl2 : ((zs.length : Int) == (k : Int)) = false := by simp; omega
      go_enter Tryd.func14, Tryd.ntmps14
      go_wp2_with fail
      refine (L.out).mono ?_
      rintro e w1 ⟨v, rfl, hown, hb⟩
      simp only [Option.isSome_some, Option.getD_some] at hown ⊢
      have HB := Lib.hid hb
      clear hb
      rcases Go.Joins.ownsRow_forms hown with ⟨rfl, hz⟩ | ⟨gg, cap2, rfl⟩
      · have HO := Lib.hid hown
        clear hown
        go_wp2_with fail
        go_ret2
        exact list_none HB.out rfl
      · have HO := Lib.hid hown
        clear hown
        go_wp2_with fail
        go_ret2
        exact list_none HB.out rfl

/-- What readNamedNumbers answers and leaves. -/
def NamedPost (A : ByteArray) (r : Option (List Int)) (w : World) (e : Ending) (w' : World) : Prop :=
  ∃ v, e = .returned (.tuple #[.string A, v, .bool r.isSome]) ∧ w'.ownsRow w.heap.size 2 1 v (r.getD []).length ((r.getD []).map (Value.int .i64)) ∧ Below w.heap.size w w'
end Go.Proofs.YtmemmbealfghcaaDoor
