/-
  Lists read from texts: the contracts of ReadList (package impl) and of ReadList (package spec).
-/
import Derived.Test.YtkfhjmkodcahpaaDoorSplit
import Derived.Test.YtkfhjmkodcahpaaDoorRead
import Derived.Deep.OwnRows
namespace Go.Proofs.YtkfhjmkodcahpaaDoor
open Go.RowKit

/-- The numbers that parts spell, all of them in range. -/
def rowI : List (List UInt8) → Option (List Int)
  | [] => some []
  | x :: r => if numOk x = true ∧ inR (-1000000000000) 1000000000000 [numV x] = true then (rowI r).map (numV x :: ·) else none
/-- The list with a text. -/
def listR (l : List UInt8) : Option (List Int) := if l = [45] then some [] else if 64 < (spl 44 l).length then none else rowI (spl 44 l)

structure RowInv (xs : List (List UInt8)) (j : Nat) (zs : List Int) : Prop where
  len : zs.length = j
  le : j ≤ xs.length
  rest : rowI xs = (rowI (xs.drop j)).map (zs ++ ·)
theorem RowInv.start (xs : List (List UInt8)) : RowInv xs 0 [] := ⟨rfl, Nat.zero_le _, by rw [List.drop_zero]; cases rowI xs <;> rfl⟩
theorem RowInv.next {xs : List (List UInt8)} {j : Nat} {zs : List Int} (h : RowInv xs j zs) (hj : j < xs.length) (h1 : numOk xs[j] = true) (h2 : inR (-1000000000000) 1000000000000 [numV xs[j]] = true) : RowInv xs (j + 1) (zs ++ [numV xs[j]]) := by
  refine ⟨by rw [List.length_append, h.len]; rfl, hj, ?_⟩
  have hr := h.rest
  rw [List.drop_eq_getElem_cons hj, rowI, if_pos ⟨h1, h2⟩] at hr
  rw [hr]
  cases rowI (xs.drop (j + 1)) <;> simp
theorem RowInv.bad {xs : List (List UInt8)} {j : Nat} {zs : List Int} (h : RowInv xs j zs) (hj : j < xs.length) (h1 : ¬ (numOk xs[j] = true ∧ inR (-1000000000000) 1000000000000 [numV xs[j]] = true)) : rowI xs = none := by
  have hr := h.rest
  rw [List.drop_eq_getElem_cons hj, rowI, if_neg h1] at hr
  exact hr
theorem RowInv.done {xs : List (List UInt8)} {zs : List Int} (h : RowInv xs xs.length zs) : rowI xs = some zs := by
  have hr := h.rest
  rw [List.drop_length] at hr
  rw [hr]
  simp [rowI]

/-- The call returned a slice of its own that holds these numbers, and whether there are any. -/
def ListPost (r : Option (List Int)) (w : World) (e : Ending) (w' : World) : Prop :=
  ∃ v, e = .returned (.tuple #[v, .bool r.isSome]) ∧ w'.ownsRow w.heap.size 2 1 v (r.getD []).length ((r.getD []).map (Value.int .i64)) ∧ Below w.heap.size w w'
theorem list_none {w w' : World} (hb : Below w.heap.size w w') {r : Option (List Int)} (h : r = none) : ListPost r w (.returned (.tuple #[.slice none 0 0, .bool false])) w' := by
  subst h
  exact ⟨_, rfl, World.ownsRow_nil _ _ _ _, hb⟩
theorem list_some {w w' : World} (hb : Below w.heap.size w w') {r : Option (List Int)} {zs : List Int} {v : Value} {n : Nat} (h : r = some zs) (hn : zs.length = n) (ho : w'.ownsRow w.heap.size 2 1 v n (zs.map (Value.int .i64))) : ListPost r w (.returned (.tuple #[v, .bool true])) w' := by
  subst h
  subst hn
  exact ⟨_, rfl, ho, hb⟩

theorem info_i64 : (Tryd.prog.info? 2).map (fun i => (i.zero, i.size, i.bytes)) = some (some (.int .i64 0), 1, 8) := by kernel_rfl
theorem ownsRow_below {B : Nat} {w w' : World} {e : TypeId} {v : Value} {n : Nat} {xs : List Value} (h : w.ownsRow B e 1 v n xs) (hb : Below w.heap.size w w') : w'.ownsRow B e 1 v n xs :=
  h.kept (⟨hb.os, hb.tape, hb.output, hb.size, fun k hk _ => hb.block k hk⟩ : w.grownBy w' none) (by cases hv : v.ownBlock <;> simp)
theorem dash_eq (s : ByteArray) (h : (s.toList == [45]) = true) : s.data.toList = [45] := by
  rw [ByteArray.toList_eq] at h
  exact beq_iff_eq.1 h
theorem dash_ne (s : ByteArray) (h : (s.toList == [45]) = false) : ¬ s.data.toList = [45] := by
  rw [ByteArray.toList_eq] at h
  exact beq_eq_false_iff_ne.1 h
theorem bs_get (xs : List (List UInt8)) (j : Nat) (h : j < xs.length) : (bs xs)[j]? = some ⟨xs[j].toArray⟩ := by
  unfold bs
  rw [List.getElem?_map, List.getElem?_eq_getElem h]
  rfl
theorem part_size (s : ByteArray) (c : UInt8) (j : Nat) (h : j < (spl c s.data.toList).length) : (⟨((spl c s.data.toList)[j]).toArray⟩ : ByteArray).size ≤ s.size := by
  have h1 := spl_part c s.data.toList _ (List.getElem_mem h)
  rw [size_len'] at h1
  show (((spl c s.data.toList)[j]).toArray).size ≤ s.size
  simpa using h1

set_option maxRecDepth 100000 in
set_option maxHeartbeats 2000000 in
theorem specList_any (s : ByteArray) (w : World) (hs : s.size ≤ 1048576) :
    Calls Tryd.prog 12 #[.string s] w (ListPost (listR s.data.toList) w) := by
  cases hd : (s.toList == [45]) with
  | true =>
    have e : listR s.data.toList = some [] := by unfold listR; rw [if_pos (dash_eq s hd)]
    have E := Lib.hid e
    clear e
    go_enter Tryd.func12, Tryd.ntmps12
    go_wp2_with fail
    go_ret2
    exact list_some ((Below.refl _ _).alloc (Nat.le_refl _) _) E.out rfl (World.ownsRow_lit w #[] 0 (Nat.le_refl _) (by decide) rfl)
  | false =>
    have hlr : listR s.data.toList = if 64 < (spl 44 s.data.toList).length then none else rowI (spl 44 s.data.toList) := by unfold listR; rw [if_neg (dash_ne s hd)]
    have hpos : 0 < (bs (spl 44 s.data.toList)).length := by rw [bs_len]; exact List.length_pos_iff.2 (spl_ne 44 _)
    have hpt := part_size s 44
    have hbl := bs_len (spl 44 s.data.toList)
    have HR := Lib.hid hlr
    clear hlr
    have PT := Lib.hid hpt
    clear hpt
    by_cases hm : 64 < (spl 44 s.data.toList).length
    · have e : listR s.data.toList = none := by rw [HR.out, if_pos hm]
      have E := Lib.hid e
      clear e
      have HB := Lib.hid hbl
      go_enter Tryd.func12, Tryd.ntmps12
      go_wp2_with fail
      refine (l01Split_any s 44 44 rfl _ hs).mono ?_
      rintro e w1 ⟨v, rfl, hown1, hb1⟩
      obtain ⟨g, cap, rfl⟩ := Go.Joins.ownsRow_form hown1 hpos
      have hlt : decide ((64 : Int) < ((bs (spl 44 s.data.toList)).length : Int)) = true := by rw [hbl]; simp; omega
      clear hown1 hbl
      generalize (bs (spl 44 s.data.toList)).length = nn at *
      go_wp2_with fail
      go_ret2
      exact list_none hb1 E.out
    · have e : listR s.data.toList = rowI (spl 44 s.data.toList) := by rw [HR.out, if_neg hm]
      have E := Lib.hid e
      clear e
      obtain ⟨i0, hi, hz0, hz1, hz2⟩ := info_parts info_i64
      go_enter Tryd.func12, Tryd.ntmps12
      go_wp2_with fail
      refine (l01Split_any s 44 44 rfl _ hs).mono ?_
      rintro e w1 ⟨v, rfl, hown1, hb1⟩
      obtain ⟨g, cap, rfl⟩ := Go.Joins.ownsRow_form hown1 hpos
      have hgl := (hown1.lt g rfl).2
      generalize hxs : spl 44 s.data.toList = xs at *
      have hcell : ∀ j, (h : j < xs.length) → w1.cell? ⟨g, j, none⟩ = some (.string ⟨xs[j].toArray⟩) := by
        intro j h
        rw [hown1.cellAt j (by omega), List.getElem?_map, bs_get xs j h]
        rfl
      rw [hbl]
      have HC := Lib.hid hcell
      have hsz0 := hb1.size
      clear hown1 hcell hbl hxs
      have hlt : decide ((64 : Int) < (xs.length : Int)) = false := by simp; omega
      go_wp2_with fail
      go_loopw [5, 6] (fun v i wr => ∃ (zs : List Int) (j : Nat), i = .int .i64 (j : Int) ∧ wr.ownsRow w1.heap.size 2 1 v zs.length (zs.map (Value.int .i64)) ∧ Below w1.heap.size w1 wr ∧ w1.heap.size ≤ wr.heap.size ∧ RowInv xs j zs)
        (fun _ i _ => xs.length - (intOf i).toNat)
      case atStart =>
        exact ⟨[], 0, rfl, World.ownsRow_lit w1 #[] 0 (Nat.le_refl _) (by decide) rfl, (Below.refl _ _).alloc (Nat.le_refl _) _, by simp, RowInv.start xs⟩
      case round =>
        obtain ⟨zs, j, rfl, hown, hbel, hsz, hinv⟩ := hrel
        have hle := hinv.le
        have hzl : zs.length ≤ 64 := by have := hinv.len; omega
        by_cases hj : j < xs.length
        · have hread : wr.cell? ⟨g, 0 + j, none⟩ = some (.string ⟨xs[j].toArray⟩) := by
            rw [Nat.zero_add]
            exact (hbel.cell (p := ⟨g, j, none⟩) hgl).trans (HC.out j hj)
          have hread2 : wr.cell? ⟨g, j, none⟩ = some (.string ⟨xs[j].toArray⟩) := by
            exact (hbel.cell (p := ⟨g, j, none⟩) hgl).trans (HC.out j hj)
          have hps := PT.out j hj
          have hnx := hinv.next hj
          have hbd := hinv.bad hj
          generalize hx : xs[j] = x at *
          have hdata : (⟨x.toArray⟩ : ByteArray).data.toList = x := rfl
          have HX := Lib.hid hdata
          have HN := Lib.hid hnx
          have HD := Lib.hid hbd
          clear hnx hbd hx hdata
          generalize hp : (⟨x.toArray⟩ : ByteArray) = p at *
          have HP := Lib.hid hp
          clear hp
          cases hok : numOk x with
          | false =>
            have OK := Lib.hid hok
            have BAD := Lib.hid (HD.out (by rw [OK.out]; simp))
            clear hok
            go_wp2_with fail
            refine (l01Number_any p _ (by omega)).mono ?_
            rintro e w' ⟨rfl, rfl⟩
            rw [HX.out, OK.out]
            go_wp2_with fail
            go_ret2
            exact list_none (hb1.trans (hbel.mono hsz0)) (E.out.trans BAD.out)
          | true =>
            have OK := Lib.hid hok
            clear hok
            generalize hn : numV x = n at *
            have NV := Lib.hid hn
            clear hn
            cases hin : inR (-1000000000000) 1000000000000 [n] with
            | false =>
              have IN := Lib.hid hin
              have BAD := Lib.hid (HD.out (by rw [OK.out, IN.out]; simp))
              clear hin
              go_wp2_with fail
              refine (l01Number_any p _ (by omega)).mono ?_
              rintro e w' ⟨rfl, rfl⟩
              rw [HX.out, OK.out, NV.out]
              go_wp2_with fail
              refine (l00In_any _ _ _ _).mono ?_
              rintro e w' ⟨rfl, rfl⟩
              rw [IN.out]
              go_wp2_with fail
              go_ret2
              exact list_none (hb1.trans (hbel.mono hsz0)) (E.out.trans BAD.out)
            | true =>
              have IN := Lib.hid hin
              have NX := Lib.hid (HN.out OK.out IN.out)
              clear hin
              go_wp2_with fail
              refine (l01Number_any p _ (by omega)).mono ?_
              rintro e w' ⟨rfl, rfl⟩
              rw [HX.out, OK.out, NV.out]
              go_wp2_with fail
              refine (l00In_any _ _ _ _).mono ?_
              rintro e w' ⟨rfl, rfl⟩
              rw [IN.out]
              go_wp2_with (at_builtin; refine wpList_append_own _ rfl _ _ 35 rfl w1.heap.size 2 i0 (.int .i64 0) 1 8 Tryd.underlying35 hi hz0 hz1 hz2 rfl (by decide) _ _ _ rfl (hown.alloc _) ⟨wr.heap.size, 0, none⟩ 1 1 [.int .i64 n] rfl rfl ?c1 ?c2 ?c3 ?c4 ?c5 ?_)
              case c1 => exact one_cell _ _ _ _
              case c2 => exact one_plain _ _
              case c3 => unfold maxLen; omega
              case c4 => omega
              case c5 => simp; omega
              intro v' w2 hown' hgrow _
              obtain ⟨hb2, hs2⟩ := own_below hown hbel hsz hgrow
              have ho : w2.ownsRow w1.heap.size 2 1 v' (zs ++ [n]).length ((zs ++ [n]).map (Value.int .i64)) := by simpa using hown'
              clear hown hown' hgrow hbel hsz hread hread2
              go_wp2_with fail
              go_roundw
              case rel => exact ⟨_, j + 1, by go_num, ho, hb2, hs2, NX.out⟩
              case measure => (simp [intOf] <;> omega)
        · obtain rfl : j = xs.length := by omega
          have DN := Lib.hid hinv.done
          clear hinv
          go_wp2_with fail
          go_ret2
          exact list_some (hb1.trans (hbel.mono hsz0)) (E.out.trans DN.out) rfl (Go.Joins.ownsRow_le hown hsz0)

theorem made_list (z : Value) (n : Nat) : (madeCells #[z] n).toList = List.replicate n z := by
  apply List.ext_getElem?
  intro i
  by_cases h : i < n
  · simp [madeCells, h, Nat.mod_one]
  · simp [madeCells, h]
theorem set_next (zs : List Int) (n : Nat) (m : Int) (h : zs.length < n) :
    ((zs ++ List.replicate (n - zs.length) 0).map (Value.int .i64)).set zs.length (.int .i64 m) = (zs ++ [m] ++ List.replicate (n - (zs.length + 1)) 0).map (Value.int .i64) := by
  rw [show n - zs.length = (n - (zs.length + 1)) + 1 by omega, List.replicate_succ, ← List.map_set]
  congr 1
  rw [List.set_append_right _ _ (Nat.le_refl _), Nat.sub_self, List.set_cons_zero, List.append_assoc]
  rfl
theorem get_next (zs : List Int) (n : Nat) (h : zs.length < n) : ((zs ++ List.replicate (n - zs.length) 0).map (Value.int .i64))[zs.length]? = some (.int .i64 0) := by
  rw [show n - zs.length = (n - (zs.length + 1)) + 1 by omega, List.replicate_succ, List.getElem?_map, List.getElem?_append_right (Nat.le_refl _), Nat.sub_self]
  rfl

end Go.Proofs.YtkfhjmkodcahpaaDoor
