/-
  A name and numbers as a text: the contracts of namedNumbersText, readNumbers, readNamedNumbers (package impl).
-/
import Derived.Test.YtkfhjmkodcahpaaDoorText
import Derived.Test.YtkfhjmkodcahpaaDoorCutM
import Derived.Test.YtkfhjmkodcahpaaDoorShelfCut
namespace Go.Proofs.YtkfhjmkodcahpaaDoor
open Go.RowKit
set_option linter.unusedVariables false

theorem data_ofD (t : List UInt8) : (⟨t.toArray⟩ : ByteArray).data.toList = t := by simp
set_option maxRecDepth 100000 in
set_option maxHeartbeats 1000000 in
theorem readNums_any (s : ByteArray) (k : Nat) (hk : k ≤ 64) (hs : s.size ≤ 1048576) (w : World) (ht : TabOK w) (he : ErrOK w) (hlen : LenOK w) :
    Calls Tryd.prog 23 #[.string s, .int .i64 (k : Int)] w (ListPost (listN k s.data.toList) w) := by
  have L := Lib.hid (implList_any s w hs ht he hlen)
  unfold listN
  clear ht he hlen
  cases hr : listR s.data.toList with
  | none =>
    rw [hr] at L
    clear hr
    go_enter Tryd.func23, Tryd.ntmps23
    go_wp2_with fail
    refine (L.out).mono ?_
    rintro e w1 ⟨v, rfl, hown, hb⟩
    simp only [Option.isSome_none, Option.getD_none, List.map_nil, List.length_nil] at hown ⊢
    have HO := Lib.hid hown
    have HB := Lib.hid hb
    clear hown hb
    go_wp2_with fail
    go_ret2
    exact list_none HB.out rfl
  | some zs =>
    rw [hr] at L
    clear hr
    by_cases hl : zs.length = k
    · simp only [if_pos hl]
      subst hl
      have hl' : ((zs.length : Int) != (zs.length : Int)) = false := by simp
      go_enter Tryd.func23, Tryd.ntmps23
      go_wp2_with fail
      refine (L.out).mono ?_
      rintro e w1 ⟨v, rfl, hown, hb⟩
      simp only [Option.isSome_some, Option.getD_some] at hown ⊢
      have HB := Lib.hid hb
      clear hb
      rcases Go.Joins.ownsRow_forms hown with ⟨rfl, hz⟩ | ⟨gg, cap2, rfl⟩
      · have HO := Lib.hid hown
        clear hown
        have hl0 : (zs.length : Int) = 0 := by omega
        go_wp2_with fail
        go_ret2
        exact list_some HB.out rfl rfl HO.out
      · have HO := Lib.hid hown
        clear hown
        go_wp2_with fail
        go_ret2
        exact list_some HB.out rfl rfl HO.out
    · simp only [if_neg hl]
      have hl' : ((zs.length : Int) != (k : Int)) = true := by simp; omega
      have hl2 : ((zs.length : Int) == (k : Int)) = false := by simp; omega
      go_enter Tryd.func23, Tryd.ntmps23
      go_wp2_with fail
      refine (L.out).mono ?_
      rintro e w1 ⟨v, rfl, hown, hb⟩
      simp only [Option.isSome_some, Option.getD_some] at hown ⊢
      have HB := Lib.hid hb
      clear hb
      rcases Go.Joins.ownsRow_forms hown with ⟨rfl, hz⟩ | ⟨gg, cap2, rfl⟩
      · have HO := Lib.hid hown
        clear hown
        go_wp2_with fail
        go_ret2
        exact list_none HB.out rfl
      · have HO := Lib.hid hown
        clear hown
        go_wp2_with fail
        go_ret2
        exact list_none HB.out rfl

/-- What readNamedNumbers answers and leaves. -/
def NamedPost (A : ByteArray) (r : Option (List Int)) (w : World) (e : Ending) (w' : World) : Prop :=
  ∃ v, e = .returned (.tuple #[.string A, v, .bool r.isSome]) ∧ w'.ownsRow w.heap.size 2 1 v (r.getD []).length ((r.getD []).map (Value.int .i64)) ∧ Below w.heap.size w w'
set_option maxRecDepth 100000 in
set_option maxHeartbeats 1000000 in
theorem readNamed_any (s : ByteArray) (k : Nat) (hk : k ≤ 64) (hs : s.size ≤ 1048576) (w : World) (ht : TabOK w) (he : ErrOK w) (hlen : LenOK w) :
    Calls Tryd.prog 14 #[.string s, .int .i64 (k : Int)] w (NamedPost ⟨(Lib.cut s.data.toList [32]).1.toArray⟩ (listN k (Lib.cut s.data.toList [32]).2.1) w) := by
  have hlen2 := hlen
  obtain ⟨m, hm⟩ := hlen2
  have CU := Lib.hid (Tryd.strings_Cut s ⟨#[32]⟩ m w (by omega) hm)
  have e32 : (⟨#[32]⟩ : ByteArray).data.toList = [32] := rfl
  have hl := cut_len s.data.toList
  have hsl : s.data.toList.length = s.size := Array.length_toList
  rw [e32] at CU
  have dB : (⟨(Lib.cut s.data.toList [32]).2.1.toArray⟩ : ByteArray).data.toList = (Lib.cut s.data.toList [32]).2.1 := data_ofD _
  have sB : (⟨(Lib.cut s.data.toList [32]).2.1.toArray⟩ : ByteArray).size ≤ 1048576 := by
    show ((Lib.cut s.data.toList [32]).2.1.toArray).size ≤ 1048576
    simp only [List.size_toArray]
    omega
  have R := Lib.hid (fun w ht he hl => readNums_any ⟨(Lib.cut s.data.toList [32]).2.1.toArray⟩ k hk sB w ht he hl)
  rw [dB] at R
  have TE := Lib.hid ht
  have EE := Lib.hid he
  have LE := Lib.hid hlen
  clear ht he hlen dB sB hl hsl hm e32
  generalize listN k (Lib.cut s.data.toList [32]).2.1 = r at *
  generalize (⟨(Lib.cut s.data.toList [32]).1.toArray⟩ : ByteArray) = A at *
  generalize (⟨(Lib.cut s.data.toList [32]).2.1.toArray⟩ : ByteArray) = B at *
  generalize (Lib.cut s.data.toList [32]).2.2 = c at *
  go_enter Tryd.func14, Tryd.ntmps14
  go_wp2_with fail
  refine CU.out.mono ?_
  rintro e w1 ⟨rfl, q, rfl⟩
  have hz : (w.drewN q).heap.size = w.heap.size := rfl
  have HB1 := Lib.hid (bel_drewN (Below.refl w.heap.size w) q)
  generalize w.drewN q = w1 at *
  go_wp2_with fail
  refine (R.out _ (TE.out.below HB1.out) (EE.out.below HB1.out) (LE.out.below HB1.out)).mono ?_
  rintro e w2 ⟨v, rfl, hown, hb⟩
  rw [hz] at hown
  have HB2 := Lib.hid (HB1.out.trans (hb.mono HB1.out.size))
  have HO := Lib.hid hown
  clear hown hb
  go_wp2_with fail
  refine bodyPost_ret (v := .tuple #[.string A, v, .bool r.isSome]) (by simp [results, Tryd.results14, go_sem]) rfl ⟨v, rfl, HO.out, HB2.out⟩

end Go.Proofs.YtkfhjmkodcahpaaDoor
