/-
  Lists of numbers read from texts: the contract of ReadList (package impl), which reads each part by readEach and then looks at the range.
-/
import Derived.Test.YtjghopepgfgebaaDoorList
import Derived.Test.YtjghopepgfgebaaDoorEachD
namespace Go.Proofs.YtjghopepgfgebaaDoor
open Go.RowKit
set_option linter.unusedVariables false

theorem own_downE {w : World} {B C : Nat} {e : TypeId} {n : Nat} {v : Value} {xs : List Value} (h : w.ownsRow C e 1 v n xs) (hB : B ≤ C) : w.ownsRow B e 1 v n xs :=
  ⟨h.1, h.2.imp id fun ⟨g, cap, cur, h1, h2, h3⟩ => ⟨g, cap, cur, h1, Nat.le_trans hB h2, h3⟩⟩
theorem rowI_notok : ∀ xs : List (List UInt8), xs.all numOk = false → rowI xs = none
  | [], h => by cases h
  | x :: r, h => by
    rw [rowI]
    by_cases c : numOk x = true ∧ inR (-1000000000000) 1000000000000 [numV x] = true
    · rw [if_pos c, rowI_notok r (by rw [List.all_cons, c.1, Bool.true_and] at h; exact h)]
      rfl
    · rw [if_neg c]
theorem inR_cons (lo hi x : Int) (r : List Int) : inR lo hi (x :: r) = (inR lo hi [x] && inR lo hi r) := by simp [inR]
theorem rowI_out : ∀ xs : List (List UInt8), inR (-1000000000000) 1000000000000 (xs.map numV) = false → rowI xs = none
  | [], h => by cases h
  | x :: r, h => by
    rw [rowI]
    by_cases c : numOk x = true ∧ inR (-1000000000000) 1000000000000 [numV x] = true
    · rw [if_pos c, rowI_out r (by rw [List.map_cons, inR_cons, c.2, Bool.true_and] at h; exact h)]
      rfl
    · rw [if_neg c]
theorem rowI_in : ∀ xs : List (List UInt8), xs.all numOk = true → inR (-1000000000000) 1000000000000 (xs.map numV) = true → rowI xs = some (xs.map numV)
  | [], _, _ => rfl
  | x :: r, h1, h2 => by
    rw [List.all_cons, Bool.and_eq_true] at h1
    rw [List.map_cons, inR_cons, Bool.and_eq_true] at h2
    rw [rowI, if_pos ⟨h1.1, h2.1⟩, rowI_in r h1.2 h2.2]
    rfl

set_option maxRecDepth 100000 in
set_option maxHeartbeats 4000000 in
theorem implList_any (s : ByteArray) (w : World) (hs : s.size ≤ 1048576) (ht : TabOK w) (he : ErrOK w) (hlen : LenOK w) :
    Calls Tryd.prog 30 #[.string s] w (ListPost (listR s.data.toList) w) := by
  cases hd : (s.toList == [45]) with
  | true =>
    have e : listR s.data.toList = some [] := by unfold listR; rw [if_pos (dash_eq s hd)]
    have E := Lib.hid e
    clear e
    go_enter Tryd.func30, Tryd.ntmps30
    go_wp2_with fail
    go_ret2
    exact list_some ((Below.refl _ _).alloc (Nat.le_refl _) _) E.out rfl (World.ownsRow_lit w #[] 0 (Nat.le_refl _) (by decide) rfl)
  | false =>
    have hlr : listR s.data.toList = if 64 < (spl 44 s.data.toList).length then none else rowI (spl 44 s.data.toList) := by unfold listR; rw [if_neg (dash_ne s hd)]
    have hpos : 0 < (bs (spl 44 s.data.toList)).length := by rw [bs_len]; exact List.length_pos_iff.2 (spl_ne 44 _)
    have hpt := part_size s 44
    have hbl := bs_len (spl 44 s.data.toList)
    have HR := Lib.hid hlr
    clear hlr
    have PT := Lib.hid hpt
    clear hpt
    by_cases hm : 64 < (spl 44 s.data.toList).length
    · have e : listR s.data.toList = none := by rw [HR.out, if_pos hm]
      have E := Lib.hid e
      clear e
      go_enter Tryd.func30, Tryd.ntmps30
      go_wp2_with fail
      refine (split_any s 44 _ hs hlen).mono ?_
      rintro e w1 ⟨v, rfl, hown1, hb1⟩
      obtain ⟨g, cap, rfl⟩ := Go.Joins.ownsRow_form hown1 hpos
      have hlt : decide ((64 : Int) < ((bs (spl 44 s.data.toList)).length : Int)) = true := by rw [hbl]; simp; omega
      clear hown1 hbl
      generalize (bs (spl 44 s.data.toList)).length = nn at *
      go_wp2_with fail
      go_ret2
      exact list_none hb1 E.out
    · have e : listR s.data.toList = rowI (spl 44 s.data.toList) := by rw [HR.out, if_neg hm]
      have E := Lib.hid e
      clear e
      go_enter Tryd.func30, Tryd.ntmps30
      go_wp2_with fail
      refine (split_any s 44 _ hs hlen).mono ?_
      rintro e w1 ⟨v, rfl, hown1, hb1⟩
      obtain ⟨g, cap, rfl⟩ := Go.Joins.ownsRow_form hown1 hpos
      have hgl := (hown1.lt g rfl).2
      have T1 := Lib.hid (ht.below hb1)
      have E1 := Lib.hid (he.below hb1)
      have L1 := Lib.hid (hlen.below hb1)
      have HB1 := Lib.hid hb1
      clear ht he hlen
      generalize hxs : spl 44 s.data.toList = xs at *
      have hcell : ∀ j, (h : j < xs.length) → w1.cell? ⟨g, 0 + j, none⟩ = some (.string ⟨xs[j].toArray⟩) := by
        intro j h
        rw [Nat.zero_add, hown1.cellAt j (by omega), List.getElem?_map, bs_get xs j h]
        rfl
      rw [hbl]
      have EA := Lib.hid (eachD_any g 0 cap xs w1 (by omega) hgl hcell (fun j h => Nat.le_trans (PT.out j h) hs) T1.out E1.out L1.out)
      have RB := Lib.hid (rowI_notok xs)
      have RO := Lib.hid (rowI_out xs)
      have RI := Lib.hid (rowI_in xs)
      have HML := Lib.hid (show (xs.map numV).length = xs.length from List.length_map _)
      have XP : Hid (0 < xs.length) := Lib.hid (by rw [bs_len] at hpos; exact hpos)
      have XL : Hid (xs.length ≤ 64) := Lib.hid (by omega)
      have hlt : decide ((64 : Int) < (xs.length : Int)) = false := by simp; omega
      clear hown1 hcell hbl hxs hb1 hpos
      generalize xs.map numV = ys at *
      generalize xs.all numOk = ok at *
      go_wp2_with fail
      refine EA.out.mono ?_
      rintro e w2 ⟨v2, rfl, hown2, hb2⟩
      have HB2 := Lib.hid (HB1.out.trans (hb2.mono HB1.out.size))
      have hsz := HB1.out.size
      cases ok with
      | false =>
        have N := Lib.hid (E.out.trans (RB.out rfl))
        clear hown2 hb2
        go_wp2_with fail
        go_ret2
        exact list_none HB2.out N.out
      | true =>
        have OW := Lib.hid (hown2 rfl)
        have hyp : 0 < ys.length := by rw [HML.out]; exact XP.out
        obtain ⟨g2, c3, hv3⟩ := Go.Joins.ownsRow_form OW.out hyp
        subst hv3
        have WI := Lib.hid (within64 (-1000000000000) 1000000000000 g2 0 ys.length c3 ys w2 rfl (by have := HML.out; have := XL.out; omega) (fun j hj => by
          rw [Nat.zero_add, OW.out.cellAt j (by omega), List.getElem?_map, List.getElem?_eq_getElem hj, List.getD, List.getElem?_eq_getElem hj]
          rfl))
        clear hown2 hb2 hyp
        go_wp2_with fail
        refine WI.out.mono ?_
        rintro e w3 ⟨rfl, rfl⟩
        cases hin : inR (-1000000000000) 1000000000000 ys with
        | false =>
          have N := Lib.hid (E.out.trans (RO.out hin))
          go_wp2_with fail
          go_ret2
          exact list_none HB2.out N.out
        | true =>
          have N := Lib.hid (E.out.trans (RI.out trivial hin))
          go_wp2_with fail
          go_ret2
          exact list_some HB2.out N.out rfl (own_downE OW.out hsz)
end Go.Proofs.YtjghopepgfgebaaDoor
