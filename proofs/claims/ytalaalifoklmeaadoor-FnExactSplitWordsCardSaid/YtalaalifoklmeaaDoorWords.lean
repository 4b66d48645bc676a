/-
  Words of a line: the contracts of SplitWords (package impl) and of SplitWords (package spec).
-/
import Derived.Test.YtalaalifoklmeaaDoorMark
import Derived.Deep.RegionHeld3
import Derived.Deep.AppendLies
namespace Go.Proofs.YtalaalifoklmeaaDoor
open Go.RowKit

def wordsI (l : List UInt8) : List (List UInt8) := (spl 32 l).filter fun x => !x.isEmpty
theorem filt_next (xs : List (List UInt8)) (j : Nat) (h : j < xs.length) : (xs.take (j + 1)).filter (fun x => !x.isEmpty) = (xs.take j).filter (fun x => !x.isEmpty) ++ (if xs[j].isEmpty then [] else [xs[j]]) := by
  rw [List.take_succ_eq_append_getElem h, List.filter_append]
  cases hx : xs[j].isEmpty <;> simp [hx]
/-- The words among the first j parts, out of the walk's sight. -/
def filt (xs : List (List UInt8)) (j : Nat) : List (List UInt8) := (xs.take j).filter fun x => !x.isEmpty
theorem filt_len (xs : List (List UInt8)) (j : Nat) : (filt xs j).length ≤ j := by
  have := List.length_filter_le (fun x : List UInt8 => !x.isEmpty) (xs.take j)
  rw [List.length_take] at this
  unfold filt
  omega
theorem filt_skip (xs : List (List UInt8)) (j : Nat) (h : j < xs.length) (he : xs[j].isEmpty = true) : filt xs (j + 1) = filt xs j := by
  unfold filt
  rw [filt_next xs j h, he]
  simp
theorem filt_take (xs : List (List UInt8)) (j : Nat) (h : j < xs.length) (he : xs[j].isEmpty = false) : filt xs (j + 1) = filt xs j ++ [xs[j]] := by
  unfold filt
  rw [filt_next xs j h, he]
  simp
theorem filt_all (l : List UInt8) : filt (spl 32 l) (spl 32 l).length = wordsI l := by unfold filt wordsI; rw [List.take_length]
theorem empty_yes (x : List UInt8) (p : ByteArray) (hp : p.data.toList = x) (h : x.isEmpty = true) : p.toList.isEmpty = true ∧ p.toList = [] := by
  rw [ByteArray.toList_eq, hp]
  exact ⟨h, List.isEmpty_iff.1 h⟩
theorem empty_no (x : List UInt8) (p : ByteArray) (hp : p.data.toList = x) (h : x.isEmpty = false) : p.toList.isEmpty = false ∧ ¬ p.toList = [] := by
  rw [ByteArray.toList_eq, hp]
  exact ⟨h, fun e => by rw [e] at h; simp at h⟩

set_option maxRecDepth 100000 in
set_option maxHeartbeats 2000000 in
theorem specWords_any (s : ByteArray) (w : World) (hs : s.size ≤ 1048576) :
    Calls Tryd.prog 23 #[.string s] w (RowPost (bs (wordsI s.data.toList)) w) := by
  have hpos : 0 < (bs (spl 32 s.data.toList)).length := by rw [bs_len]; exact List.length_pos_iff.2 (spl_ne 32 _)
  have hbl := bs_len (spl 32 s.data.toList)
  have hsl := spl_len 32 s.data.toList
  rw [size_len'] at hsl
  have hfa := filt_all s.data.toList
  obtain ⟨i0, hi, hz0, hz1, hz2⟩ := info_parts info_str
  go_enter Tryd.func23, Tryd.ntmps23
  go_wp2_with fail
  refine (l01Split_any s 32 32 rfl _ hs).mono ?_
  rintro e w1 ⟨v, rfl, hown1, hb1⟩
  obtain ⟨g, cap, rfl⟩ := Go.Joins.ownsRow_form hown1 hpos
  have hgl := (hown1.lt g rfl).2
  generalize hxs : spl 32 s.data.toList = xs at *
  have hcell : ∀ j, (h : j < xs.length) → w1.cell? ⟨g, j, none⟩ = some (.string ⟨xs[j].toArray⟩) := by
    intro j h
    rw [hown1.cellAt j (by omega), List.getElem?_map, bs_get xs j h]
    rfl
  rw [hbl]
  have HC := Lib.hid hcell
  have FA := Lib.hid hfa
  have hsz0 := hb1.size
  clear hown1 hcell hbl hxs hfa
  go_wp2_with fail
  go_loopw [4, 5] (fun v i wr => ∃ j : Nat, i = .int .i64 (j : Int) ∧ j ≤ xs.length ∧ wr.ownsRow w1.heap.size 9 1 v (bs (filt xs j)).length ((bs (filt xs j)).map Value.string) ∧ Below w1.heap.size w1 wr ∧ w1.heap.size ≤ wr.heap.size)
    (fun _ i _ => xs.length - (intOf i).toNat)
  case atStart => exact ⟨0, rfl, Nat.zero_le _, World.ownsRow_lit w1 #[] 0 (Nat.le_refl _) (by decide) rfl, (Below.refl _ _).alloc (Nat.le_refl _) _, by simp⟩
  case round =>
    obtain ⟨j, rfl, hle, hown, hbel, hsz⟩ := hrel
    have hfl := filt_len xs j
    have hfb := bs_len (filt xs j)
    by_cases hj : j < xs.length
    · have hread : wr.cell? ⟨g, 0 + j, none⟩ = some (.string ⟨xs[j].toArray⟩) := by
        rw [Nat.zero_add]; exact (hbel.cell (p := ⟨g, j, none⟩) hgl).trans (HC.out j hj)
      have hread2 : wr.cell? ⟨g, j, none⟩ = some (.string ⟨xs[j].toArray⟩) := (hbel.cell (p := ⟨g, j, none⟩) hgl).trans (HC.out j hj)
      have hdata : (⟨xs[j].toArray⟩ : ByteArray).data.toList = xs[j] := rfl
      cases hem : xs[j].isEmpty with
      | true =>
        have FS := Lib.hid (filt_skip xs j hj hem)
        obtain ⟨e1, e2⟩ := empty_yes xs[j] ⟨xs[j].toArray⟩ hdata hem
        generalize (⟨xs[j].toArray⟩ : ByteArray) = p at *
        have HE := Lib.hid hem
        clear hem hdata hfl hfb
        go_wp2_with fail
        go_roundw
        case rel => exact ⟨j + 1, by go_num, hj, by rw [FS.out]; exact hown, hbel, hsz⟩
        case measure => (simp [intOf] <;> omega)
      | false =>
        have FT := Lib.hid (filt_take xs j hj hem)
        obtain ⟨e1, e2⟩ := empty_no xs[j] ⟨xs[j].toArray⟩ hdata hem
        have hap : bs (filt xs j ++ [xs[j]]) = bs (filt xs j) ++ [⟨xs[j].toArray⟩] := by simp [bs]
        generalize (⟨xs[j].toArray⟩ : ByteArray) = p at *
        have HE := Lib.hid hem
        have AP := Lib.hid hap
        have hfle : (bs (filt xs j)).length ≤ j := by omega
        clear hem hdata hap hfb hfl
        go_wp2_with (at_builtin; refine wpList_append_own _ rfl _ _ 38 rfl w1.heap.size 9 i0 (.string ByteArray.empty) 1 16 Tryd.underlying38 hi hz0 hz1 hz2 rfl (by decide) _ _ _ rfl (hown.alloc _) ⟨wr.heap.size, 0, none⟩ 1 1 [.string p] rfl rfl ?c1 ?c2 ?c3 ?c4 ?c5 ?_)
        case c1 => exact one_cell_s _ _ _
        case c2 => exact one_plain_s _
        case c3 => unfold maxLen; omega
        case c4 => omega
        case c5 => simp; omega
        intro v' w2 hown' hgrow _
        obtain ⟨hb2, hs2⟩ := own_below hown hbel hsz hgrow
        have ho : w2.ownsRow w1.heap.size 9 1 v' (bs (filt xs (j + 1))).length ((bs (filt xs (j + 1))).map Value.string) := by
          rw [FT.out, AP.out, List.map_append, List.length_append]
          exact hown'
        clear hown hown' hgrow hbel hsz hread hread2
        go_wp2_with fail
        go_roundw
        case rel => exact ⟨j + 1, by go_num, hj, ho, hb2, hs2⟩
        case measure => (simp [intOf] <;> omega)
    · obtain rfl : j = xs.length := by omega
      go_wp2_with fail
      go_ret
      exact ⟨_, rfl, by rw [← FA.out]; exact Go.Joins.ownsRow_le hown hsz0, hb1.trans (hbel.mono hsz0)⟩

/-- What the loop keeps beside the words: what was there before, the parts in block g, and that the words lie elsewhere. -/
structure WordsKeep (w w1 wr : World) (v : Value) (g n : Nat) : Prop where
  bel : Below w.heap.size w wr
  apart : v.ownBlock ≠ some g
  old : g < wr.heap.size
  cells : ∀ k, k < n → wr.cell? ⟨g, k, none⟩ = w1.cell? ⟨g, k, none⟩
theorem WordsKeep.next {w w1 wr w2 : World} {v : Value} {g n gg m cap : Nat} {o : Obj} (h : WordsKeep w w1 wr v g n) (hg : (wr.alloc o).grownBy w2 v.ownBlock) (hl : v.ownBlock = some gg ∨ gg = wr.heap.size + 1) (hb : Below w.heap.size w w2) :
    WordsKeep w w1 w2 (.slice (some ⟨gg, 0, none⟩) m cap) g n := by
  have h1 := h.old
  have h2 := hg.size
  simp at h2
  refine ⟨hb, ?_, by omega, fun k hk => ?_⟩
  · intro e
    have e2 : gg = g := by simpa [Value.ownBlock] using e
    subst e2
    rcases hl with hl | hl
    · exact h.apart hl
    · omega
  · rw [hg.cell_far ⟨g, k, none⟩ (by simp; omega) (Ne.symm h.apart), ← h.cells k hk]
    exact ((Below.refl _ wr).alloc (Nat.le_refl _) o).cell (p := ⟨g, k, none⟩) h1

set_option maxRecDepth 100000 in
set_option maxHeartbeats 2000000 in
theorem implWords_any (s : ByteArray) (w : World) (hs : s.size ≤ 1048576) (hlen : LenOK w) :
    Calls Tryd.prog 24 #[.string s] w (RowPost (bs (wordsI s.data.toList)) w) := by
  have hpos : 0 < (bs (spl 32 s.data.toList)).length := by rw [bs_len]; exact List.length_pos_iff.2 (spl_ne 32 _)
  have hbl := bs_len (spl 32 s.data.toList)
  have hsl := spl_len 32 s.data.toList
  rw [size_len'] at hsl
  have hfa := filt_all s.data.toList
  obtain ⟨i0, hi, hz0, hz1, hz2⟩ := info_parts info_str
  go_enter Tryd.func24, Tryd.ntmps24
  go_wp2_with fail
  refine (split_any s 32 _ hs (hlen.below ((Below.refl _ w).alloc (Nat.le_refl _) _))).mono ?_
  rintro e w1 ⟨v, rfl, hown1, hb1⟩
  obtain ⟨g, cap, rfl⟩ := Go.Joins.ownsRow_form hown1 hpos
  have hgl := (hown1.lt g rfl).2
  generalize hxs : spl 32 s.data.toList = xs at *
  have hcell : ∀ j, (h : j < xs.length) → w1.cell? ⟨g, j, none⟩ = some (.string ⟨xs[j].toArray⟩) := by
    intro j h
    rw [hown1.cellAt j (by omega), List.getElem?_map, bs_get xs j h]
    rfl
  rw [hbl]
  have HC := Lib.hid hcell
  have FA := Lib.hid hfa
  have hB : w.heap.size < w1.heap.size := by have := hb1.size; simp at this; omega
  have hg0 : w.heap.size < g := by have := (hown1.lt g rfl).1; simp at this; omega
  have hst : w1.ownsRow w.heap.size 9 1 (.slice (some ⟨w.heap.size, 0, none⟩) 0 0) 0 (([] : List ByteArray).map Value.string) :=
    ownsRow_below (World.ownsRow_lit w #[] 0 (Nat.le_refl _) (by decide) rfl) hb1
  have ST := Lib.hid hst
  have hbw : Below w.heap.size w w1 := ((Below.refl _ w).alloc (Nat.le_refl _) _).trans (hb1.mono (by simp))
  have BW := Lib.hid hbw
  clear hst hb1 hlen hbw
  clear hown1 hcell hbl hxs hfa
  go_wp2_with fail
  go_loopw [3, 10] (fun v i wr => ∃ j : Nat, i = .int .i64 (j : Int) ∧ j ≤ xs.length ∧ wr.ownsRow w.heap.size 9 1 v (bs (filt xs j)).length ((bs (filt xs j)).map Value.string) ∧ WordsKeep w w1 wr v g xs.length ∧ w.heap.size ≤ wr.heap.size)
    (fun _ i _ => xs.length - (intOf i).toNat)
  case atStart => exact ⟨0, rfl, Nat.zero_le _, ST.out, ⟨BW.out, (fun e => by have e2 : w.heap.size = g := (by simpa [Value.ownBlock] using e); omega), hgl, fun k _ => rfl⟩, by omega⟩
  case round =>
    obtain ⟨j, rfl, hle, hown, hkp, hsz⟩ := hrel
    have hfl := filt_len xs j
    have hfb := bs_len (filt xs j)
    by_cases hj : j < xs.length
    · have hread : wr.cell? ⟨g, 0 + j, none⟩ = some (.string ⟨xs[j].toArray⟩) := by
        rw [Nat.zero_add]; exact ((hkp.cells j hj).trans (HC.out j hj))
      have hread2 : wr.cell? ⟨g, j, none⟩ = some (.string ⟨xs[j].toArray⟩) := ((hkp.cells j hj).trans (HC.out j hj))
      have hdata : (⟨xs[j].toArray⟩ : ByteArray).data.toList = xs[j] := rfl
      cases hem : xs[j].isEmpty with
      | true =>
        have FS := Lib.hid (filt_skip xs j hj hem)
        obtain ⟨e1, e2⟩ := empty_yes xs[j] ⟨xs[j].toArray⟩ hdata hem
        generalize (⟨xs[j].toArray⟩ : ByteArray) = p at *
        have HE := Lib.hid hem
        clear hem hdata hfl hfb
        go_wp2_with fail
        go_roundw
        case rel => exact ⟨j + 1, by go_num, hj, by rw [FS.out]; exact hown, hkp, hsz⟩
        case measure => (simp [intOf] <;> omega)
      | false =>
        have FT := Lib.hid (filt_take xs j hj hem)
        obtain ⟨e1, e2⟩ := empty_no xs[j] ⟨xs[j].toArray⟩ hdata hem
        have hap : bs (filt xs j ++ [xs[j]]) = bs (filt xs j) ++ [⟨xs[j].toArray⟩] := by simp [bs]
        generalize (⟨xs[j].toArray⟩ : ByteArray) = p at *
        have HE := Lib.hid hem
        have AP := Lib.hid hap
        have hfle : (bs (filt xs j)).length ≤ j := by omega
        clear hem hdata hap hfb hfl
        go_wp2_with (at_builtin; refine wpList_append_lies _ rfl _ _ 38 rfl w.heap.size 9 i0 (.string ByteArray.empty) 1 16 Tryd.underlying38 hi hz0 hz1 hz2 rfl (by decide) _ _ _ rfl (hown.alloc _) ⟨wr.heap.size, 0, none⟩ 1 1 [.string p] rfl rfl ?c1 ?c2 ?c0 ?c3 ?c4 ?c5 (wr.heap.size + 1) ?c6 ?_)
        case c1 => exact one_cell_s _ _ _
        case c2 => exact one_plain_s _
        case c0 => omega
        case c3 => unfold maxLen; omega
        case c4 => omega
        case c5 => simp; omega
        case c6 => simp
        intro gg cap2 w2 hown' hgrow hlies hlt2
        obtain ⟨hb2, hs2⟩ := own_below hown hkp.bel hsz hgrow
        have hkp2 := hkp.next (m := (bs (filt xs j)).length + 1) (cap := cap2) hgrow hlies hb2
        have ho : w2.ownsRow w.heap.size 9 1 (.slice (some ⟨gg, 0, none⟩) ((bs (filt xs j)).length + 1) cap2) (bs (filt xs (j + 1))).length ((bs (filt xs (j + 1))).map Value.string) := by
          rw [FT.out, AP.out, List.map_append, List.length_append]
          exact hown'
        clear hown hown' hgrow hkp hsz hread hread2
        go_wp2_with fail
        go_roundw
        case rel => exact ⟨j + 1, by go_num, hj, ho, hkp2, hs2⟩
        case measure => (simp [intOf] <;> omega)
    · obtain rfl : j = xs.length := by omega
      go_wp2_with fail
      go_ret
      exact ⟨_, rfl, by rw [← FA.out]; exact hown, hkp.bel⟩
end Go.Proofs.YtalaalifoklmeaaDoor
