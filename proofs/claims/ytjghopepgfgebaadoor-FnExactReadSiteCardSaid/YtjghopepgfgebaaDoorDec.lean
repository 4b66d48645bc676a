/-
  Numbers in decimal: the contracts of Decimal (package impl) and of l01Dec, Decimal (package spec).
-/
import Derived.Test.YtjghopepgfgebaaDoorRows
import Derived.Test.YtjghopepgfgebaaDoorShelf
import Derived.Test.YtjghopepgfgebaaDoorPost
import Derived.Test.YtjghopepgfgebaaDoorCore
import Derived.Test.YtjghopepgfgebaaDoorDecMath
import Derived.WalkKit
import Derived.ProofKit
import Derived.OpenShut
import Derived.WalkLawsBesides
import Derived.Lib.Hide
import Derived.Lib.SmallJoins
import Derived.Lib.LaidTab
import Derived.Lib.AppendIntMem
import Derived.Outline
namespace Go.Proofs.YtjghopepgfgebaaDoor
open Go.RowKit


theorem info_u8 : (Tryd.prog.info? 5).map (fun i => (i.zero, i.size, i.bytes)) = some (some (.int .u8 0), 1, 1) := by kernel_rfl

/-- An append to a row of the call's own leaves what was there before B as it was. -/
theorem own_below {B : Nat} {w0 w w1 : World} {e : TypeId} {v : Value} {n : Nat} {xs : List Value} {o : Obj} (hown : w.ownsRow B e 1 v n xs) (hb : Below B w0 w) (hB : B ≤ w.heap.size)
    (hg : (w.alloc o).grownBy w1 v.ownBlock) : Below B w0 w1 ∧ B ≤ w1.heap.size := by
  refine ⟨(hb.alloc hB o).grown hg (by simp; omega) (fun k hk => (hown.lt k hk).1), ?_⟩
  have := hg.size
  simp at this
  omega
theorem one_cell (k : IntKind) (w : World) (T : TypeId) (c : Int) : ∀ (j : Nat) u, [Value.int k c][j]? = some u → (w.alloc (.cells #[.int k c] T)).cell? ((⟨w.heap.size, 0, none⟩ : Addr).add j) = some u := by
  intro j u hj
  match j, hj with
  | 0, hj => simp at hj; subst hj; simp [Addr.add]
theorem one_plain (k : IntKind) (c : Int) : ∀ u ∈ [Value.int k c], u.oneCell' = true := by
  intro u hu
  simp at hu
  subst hu
  rfl

theorem itoa_zero : Lib.itoa 0 = [48] := by
  unfold Lib.itoa
  rw [if_neg (by omega), Lib.decDigits, dif_pos (by decide)]
  rfl
theorem dec_neg (m : Int) (h : m < 0) : m.tmod 10 = -(-m % 10) ∧ m.tdiv 10 = -(-m / 10) := by
  obtain ⟨u, rfl⟩ : ∃ u : Int, m = -u := ⟨-m, by omega⟩
  rw [Int.neg_tmod, Int.neg_tdiv, Int.neg_neg, Int.tmod_eq_emod_of_nonneg (by omega), Int.tdiv_eq_ediv_of_nonneg (by omega)]
  exact ⟨rfl, rfl⟩

set_option maxRecDepth 100000 in
set_option maxHeartbeats 2000000 in
theorem l01Dec_pos (n : Int) (w : World) (h0 : -9223372036854775808 ≤ n) (h1 : n ≤ 9223372036854775807) (hs : 0 < n) :
    Calls Tryd.prog 67 #[.int .i64 n] w fun e w' => e = .returned (.string ⟨(Lib.itoa n).toArray⟩) ∧ Below w.heap.size w w' := by
  have hz : ¬ n = 0 := by omega
  have hz' : (n == 0) = false := by simpa using hz
  obtain ⟨i0, hi, hz0, hz1, hz2⟩ := info_parts info_u8
  have Z := Lib.hid hz
  clear hz
  go_enter Tryd.func67, Tryd.ntmps67
  go_wp2_with fail
  go_loopw [3, 4] (fun v i wr => ∃ (xs : List Int) (m : Int), i = .int .i64 m ∧ wr.ownsRow w.heap.size 5 1 v xs.length (xs.map (Value.int .u8)) ∧ Below w.heap.size w wr ∧ w.heap.size ≤ wr.heap.size ∧ DecInv n xs m)
    (fun _ i _ => (intOf i).natAbs)
  case atStart =>
    exact ⟨[], n, rfl, World.ownsRow_lit w #[] 0 (Nat.le_refl _) (by decide) rfl, (Below.refl _ _).alloc (Nat.le_refl _) _, by simp, DecInv.start n h0 h1⟩
  case round =>
    obtain ⟨xs, m, rfl, hown, hbel, hsz, hinv⟩ := hrel
    have hlow := hinv.low
    have hhigh := hinv.high
    have hlen := hinv.len
    by_cases c0 : m = 0
    · subst c0
      obtain rfl := hinv.done
      clear hinv
      have es : rd n.natAbs = signed n := by unfold signed; rw [if_neg (by omega)]
      rw [es] at hown
      clear es hlen hlow hhigh
      obtain ⟨wx, hwx⟩ : ∃ wx, wx = wr := ⟨_, rfl⟩
      subst hwx
      obtain ⟨g, cap, rfl⟩ := Go.Joins.ownsRow_form hown (signed_pos n Z.out)
      have hgl := (hown.lt g rfl).2
      have hcell : ∀ j, j < (signed n).length → wx.cell? ⟨g, j, none⟩ = some (.int .u8 ((signed n).getD j 0)) := by
        intro j hj
        rw [hown.cellAt j (by omega)]
        simp [hj]
      have hsl := signed_len n h0 h1
      have hsb := Lib.hid (signed_back n Z.out)
      have hpos := signed_pos n Z.out
      clear hown
      generalize signed n = ys at *
      go_wp2_with fail
      go_loopw [6, 7] (fun v i wr => ∃ k : Nat, k ≤ ys.length ∧ i = .int .i64 ((k : Int) - 1) ∧ wr.ownsRow wx.heap.size 5 1 v (ys.length - k) ((ys.drop k).reverse.map (Value.int .u8)) ∧ Below wx.heap.size wx wr ∧ wx.heap.size ≤ wr.heap.size)
        (fun _ i _ => (intOf i + 1).toNat)
      case atStart =>
        refine ⟨ys.length, Nat.le_refl _, rfl, ?_, (Below.refl _ _).alloc (Nat.le_refl _) _, by simp⟩
        rw [Nat.sub_self, List.drop_length]
        exact World.ownsRow_lit wx #[] 0 (Nat.le_refl _) (by decide) rfl
      case round =>
        obtain ⟨k, hk, rfl, hown2, hbel2, hsz2⟩ := hrel
        cases k with
        | zero =>
          rw [List.drop_zero, Nat.sub_zero] at hown2
          obtain ⟨g2, cap2, rfl⟩ := Go.Joins.ownsRow_form hown2 hpos
          have hconv := run_convert_bytes_arg (P := Tryd.prog) wr 47 5 Tryd.underlying47 Tryd.underlying5 g2 0 ys.length cap2 ys.reverse (by simp) (fun i hi => by
            rw [Nat.zero_add, hown2.cellAt i (by omega)]
            simp [hi]) 9 Tryd.underlying9
          have hfin : strOfNums ys.reverse = ⟨(Lib.itoa n).toArray⟩ := by rw [hsb.out, str_of_digits]
          have HF := Lib.hid hfin
          clear hfin hown2 hcell
          go_wp2_with fail
          go_ret
          exact ⟨ret_str HF.out, hbel.trans (hbel2.mono hsz)⟩
        | succ j =>
          have hread : wr.cell? ⟨g, j, none⟩ = some (.int .u8 (ys.getD j 0)) := (hbel2.cell (p := ⟨g, j, none⟩) hgl).trans (hcell j (by omega))
          have hjl : j < ys.length := by omega
          have hdr := drop_rev ys j hjl
          have HD := Lib.hid hdr
          clear hdr
          have hread2 : wr.cell? ⟨g, 0 + j, none⟩ = some (.int .u8 (ys.getD j 0)) := by rw [Nat.zero_add]; exact hread
          go_wp2_with (at_builtin; refine wpList_append_own _ rfl _ _ 47 rfl wx.heap.size 5 i0 (.int .u8 0) 1 1 Tryd.underlying47 hi hz0 hz1 hz2 rfl (by decide) _ _ _ rfl (hown2.alloc _) ⟨wr.heap.size, 0, none⟩ 1 1 [.int .u8 (ys[j])] rfl rfl ?c1 ?c2 ?c3 ?c4 ?c5 ?_)
          case c1 => exact one_cell _ _ _ _
          case c2 => exact one_plain _ _
          case c3 => unfold maxLen; omega
          case c4 => omega
          case c5 => simp; omega
          intro v' w1 hown' hgrow _
          obtain ⟨hb1, hs1⟩ := own_below hown2 hbel2 hsz2 hgrow
          have ho : w1.ownsRow wx.heap.size 5 1 v' (ys.length - j) ((ys.drop j).reverse.map (Value.int .u8)) := by
            rw [HD.out, List.map_append, List.map_reverse, List.map_drop, show ys.length - j = ys.length - (j + 1) + 1 by omega]
            exact hown'
          clear hown2 hown' hgrow hbel2 hsz2 hread hread2
          go_wp2_with fail
          go_roundw
          case rel => exact ⟨j, by omega, by go_num, ho, hb1, hs1⟩
          case measure => (simp [intOf] <;> omega)
    · have c0' : (m != 0) = true := by simpa using c0
      by_cases c1 : m < 0
      · have hnext := DecInv.neg h0 h1 hinv c1
        obtain ⟨t1, t2⟩ := dec_neg m c1
        have r0 : 0 ≤ -m % 10 := by omega
        have r1 : -m % 10 < 10 := by omega
        have q1 : (-(-m / 10)).natAbs < m.natAbs := by omega
        have q2 : -9223372036854775808 ≤ -(-m / 10) := by omega
        have q3 : -(-m / 10) ≤ 9223372036854775807 := by omega
        generalize -m % 10 = r at *
        generalize -(-m / 10) = q at *
        have HN := Lib.hid hnext
        have HQ := Lib.hid q1
        clear hnext hinv q1
        by_cases c2 : 0 < r
        · go_wp2_with (at_builtin; refine wpList_append_own _ rfl _ _ 47 rfl w.heap.size 5 i0 (.int .u8 0) 1 1 Tryd.underlying47 hi hz0 hz1 hz2 rfl (by decide) _ _ _ rfl (hown.alloc _) ⟨wr.heap.size, 0, none⟩ 1 1 [.int .u8 (48 + r)] rfl rfl ?c1 ?c2 ?c3 ?c4 ?c5 ?_)
          case c1 => exact one_cell _ _ _ _
          case c2 => exact one_plain _ _
          case c3 => unfold maxLen; omega
          case c4 => omega
          case c5 => simp; omega
          intro v' w1 hown' hgrow _
          obtain ⟨hb1, hs1⟩ := own_below hown hbel hsz hgrow
          have ho : w1.ownsRow w.heap.size 5 1 v' (xs ++ [48 + r]).length ((xs ++ [48 + r]).map (Value.int .u8)) := by simpa using hown'
          clear hown hown' hgrow hbel hsz
          go_wp2_with fail
          go_roundw
          case rel => exact ⟨_, _, rfl, ho, hb1, hs1, HN.out⟩
          case measure => exact HQ.out
        · obtain rfl : r = 0 := by omega
          have t1' : m.tmod 10 = 0 := by rw [t1]; rfl
          clear t1 c2
          go_wp2_with (at_builtin; refine wpList_append_own _ rfl _ _ 47 rfl w.heap.size 5 i0 (.int .u8 0) 1 1 Tryd.underlying47 hi hz0 hz1 hz2 rfl (by decide) _ _ _ rfl (hown.alloc _) ⟨wr.heap.size, 0, none⟩ 1 1 [.int .u8 (48 + 0)] rfl rfl ?c1 ?c2 ?c3 ?c4 ?c5 ?_)
          case c1 => exact one_cell _ _ _ _
          case c2 => exact one_plain _ _
          case c3 => unfold maxLen; omega
          case c4 => omega
          case c5 => simp; omega
          intro v' w1 hown' hgrow _
          obtain ⟨hb1, hs1⟩ := own_below hown hbel hsz hgrow
          have ho : w1.ownsRow w.heap.size 5 1 v' (xs ++ [48 + 0]).length ((xs ++ [48 + 0]).map (Value.int .u8)) := by simpa using hown'
          clear hown hown' hgrow hbel hsz
          go_wp2_with fail
          go_roundw
          case rel => exact ⟨_, _, rfl, ho, hb1, hs1, HN.out⟩
          case measure => exact HQ.out
      · have hnext := DecInv.pos h0 h1 hinv (by omega)
        have HN := Lib.hid hnext
        clear hnext hinv
        have hp : 0 ≤ m := by omega
        have r0 : 0 ≤ m % 10 := by omega
        have r1 : m % 10 < 10 := by omega
        clear c1
        go_wp2_with (at_builtin; refine wpList_append_own _ rfl _ _ 47 rfl w.heap.size 5 i0 (.int .u8 0) 1 1 Tryd.underlying47 hi hz0 hz1 hz2 rfl (by decide) _ _ _ rfl (hown.alloc _) ⟨wr.heap.size, 0, none⟩ 1 1 [.int .u8 (48 + m % 10)] rfl rfl ?c1 ?c2 ?c3 ?c4 ?c5 ?_)
        case c1 => exact one_cell _ _ _ _
        case c2 => exact one_plain _ _
        case c3 => unfold maxLen; omega
        case c4 => omega
        case c5 => simp; omega
        intro v' w1 hown' hgrow _
        obtain ⟨hb1, hs1⟩ := own_below hown hbel hsz hgrow
        have ho : w1.ownsRow w.heap.size 5 1 v' (xs ++ [48 + m % 10]).length ((xs ++ [48 + m % 10]).map (Value.int .u8)) := by simpa using hown'
        clear hown hown' hgrow hbel hsz
        go_wp2_with fail
        go_roundw
        case rel => exact ⟨_, _, rfl, ho, hb1, hs1, HN.out⟩
        case measure => (simp [intOf] <;> omega)

set_option maxRecDepth 100000 in
set_option maxHeartbeats 2000000 in
theorem l01Dec_neg (n : Int) (w : World) (h0 : -9223372036854775808 ≤ n) (h1 : n ≤ 9223372036854775807) (hs : n < 0) :
    Calls Tryd.prog 67 #[.int .i64 n] w fun e w' => e = .returned (.string ⟨(Lib.itoa n).toArray⟩) ∧ Below w.heap.size w w' := by
  have hz : ¬ n = 0 := by omega
  have hz' : (n == 0) = false := by simpa using hz
  obtain ⟨i0, hi, hz0, hz1, hz2⟩ := info_parts info_u8
  have Z := Lib.hid hz
  clear hz
  go_enter Tryd.func67, Tryd.ntmps67
  go_wp2_with fail
  go_loopw [3, 4] (fun v i wr => ∃ (xs : List Int) (m : Int), i = .int .i64 m ∧ wr.ownsRow w.heap.size 5 1 v xs.length (xs.map (Value.int .u8)) ∧ Below w.heap.size w wr ∧ w.heap.size ≤ wr.heap.size ∧ DecInv n xs m)
    (fun _ i _ => (intOf i).natAbs)
  case atStart =>
    exact ⟨[], n, rfl, World.ownsRow_lit w #[] 0 (Nat.le_refl _) (by decide) rfl, (Below.refl _ _).alloc (Nat.le_refl _) _, by simp, DecInv.start n h0 h1⟩
  case round =>
    obtain ⟨xs, m, rfl, hown, hbel, hsz, hinv⟩ := hrel
    have hlow := hinv.low
    have hhigh := hinv.high
    have hlen := hinv.len
    by_cases c0 : m = 0
    · subst c0
      obtain rfl := hinv.done
      clear hinv
      have es : rd n.natAbs ++ [45] = signed n := by unfold signed; rw [if_pos hs]
      go_wp2_with (at_builtin; refine wpList_append_own _ rfl _ _ 47 rfl w.heap.size 5 i0 (.int .u8 0) 1 1 Tryd.underlying47 hi hz0 hz1 hz2 rfl (by decide) _ _ _ rfl (hown.alloc _) ⟨wr.heap.size, 0, none⟩ 1 1 [.int .u8 (45)] rfl rfl ?c1 ?c2 ?c3 ?c4 ?c5 ?_)
      case c1 => exact one_cell _ _ _ _
      case c2 => exact one_plain _ _
      case c3 => unfold maxLen; omega
      case c4 => omega
      case c5 => simp; omega
      intro v' wx hown' hgrow _
      obtain ⟨hb1, hs1⟩ := own_below hown hbel hsz hgrow
      have ho : wx.ownsRow w.heap.size 5 1 v' (signed n).length ((signed n).map (Value.int .u8)) := by
        rw [← es]
        simpa using hown'
      clear hown hown' hgrow hbel hsz es hlen hlow hhigh
      have hown := ho
      have hbel := hb1
      have hsz := hs1
      clear ho hb1 hs1
      obtain ⟨g, cap, rfl⟩ := Go.Joins.ownsRow_form hown (signed_pos n Z.out)
      have hgl := (hown.lt g rfl).2
      have hcell : ∀ j, j < (signed n).length → wx.cell? ⟨g, j, none⟩ = some (.int .u8 ((signed n).getD j 0)) := by
        intro j hj
        rw [hown.cellAt j (by omega)]
        simp [hj]
      have hsl := signed_len n h0 h1
      have hsb := Lib.hid (signed_back n Z.out)
      have hpos := signed_pos n Z.out
      clear hown
      generalize signed n = ys at *
      go_wp2_with fail
      go_loopw [6, 7] (fun v i wr => ∃ k : Nat, k ≤ ys.length ∧ i = .int .i64 ((k : Int) - 1) ∧ wr.ownsRow wx.heap.size 5 1 v (ys.length - k) ((ys.drop k).reverse.map (Value.int .u8)) ∧ Below wx.heap.size wx wr ∧ wx.heap.size ≤ wr.heap.size)
        (fun _ i _ => (intOf i + 1).toNat)
      case atStart =>
        refine ⟨ys.length, Nat.le_refl _, rfl, ?_, (Below.refl _ _).alloc (Nat.le_refl _) _, by simp⟩
        rw [Nat.sub_self, List.drop_length]
        exact World.ownsRow_lit wx #[] 0 (Nat.le_refl _) (by decide) rfl
      case round =>
        obtain ⟨k, hk, rfl, hown2, hbel2, hsz2⟩ := hrel
        cases k with
        | zero =>
          rw [List.drop_zero, Nat.sub_zero] at hown2
          obtain ⟨g2, cap2, rfl⟩ := Go.Joins.ownsRow_form hown2 hpos
          have hconv := run_convert_bytes_arg (P := Tryd.prog) wr 47 5 Tryd.underlying47 Tryd.underlying5 g2 0 ys.length cap2 ys.reverse (by simp) (fun i hi => by
            rw [Nat.zero_add, hown2.cellAt i (by omega)]
            simp [hi]) 9 Tryd.underlying9
          have hfin : strOfNums ys.reverse = ⟨(Lib.itoa n).toArray⟩ := by rw [hsb.out, str_of_digits]
          have HF := Lib.hid hfin
          clear hfin hown2 hcell
          go_wp2_with fail
          go_ret
          exact ⟨ret_str HF.out, hbel.trans (hbel2.mono hsz)⟩
        | succ j =>
          have hread : wr.cell? ⟨g, j, none⟩ = some (.int .u8 (ys.getD j 0)) := (hbel2.cell (p := ⟨g, j, none⟩) hgl).trans (hcell j (by omega))
          have hjl : j < ys.length := by omega
          have hdr := drop_rev ys j hjl
          have HD := Lib.hid hdr
          clear hdr
          have hread2 : wr.cell? ⟨g, 0 + j, none⟩ = some (.int .u8 (ys.getD j 0)) := by rw [Nat.zero_add]; exact hread
          go_wp2_with (at_builtin; refine wpList_append_own _ rfl _ _ 47 rfl wx.heap.size 5 i0 (.int .u8 0) 1 1 Tryd.underlying47 hi hz0 hz1 hz2 rfl (by decide) _ _ _ rfl (hown2.alloc _) ⟨wr.heap.size, 0, none⟩ 1 1 [.int .u8 (ys[j])] rfl rfl ?c1 ?c2 ?c3 ?c4 ?c5 ?_)
          case c1 => exact one_cell _ _ _ _
          case c2 => exact one_plain _ _
          case c3 => unfold maxLen; omega
          case c4 => omega
          case c5 => simp; omega
          intro v' w1 hown' hgrow _
          obtain ⟨hb1, hs1⟩ := own_below hown2 hbel2 hsz2 hgrow
          have ho : w1.ownsRow wx.heap.size 5 1 v' (ys.length - j) ((ys.drop j).reverse.map (Value.int .u8)) := by
            rw [HD.out, List.map_append, List.map_reverse, List.map_drop, show ys.length - j = ys.length - (j + 1) + 1 by omega]
            exact hown'
          clear hown2 hown' hgrow hbel2 hsz2 hread hread2
          go_wp2_with fail
          go_roundw
          case rel => exact ⟨j, by omega, by go_num, ho, hb1, hs1⟩
          case measure => (simp [intOf] <;> omega)
    · have c0' : (m != 0) = true := by simpa using c0
      by_cases c1 : m < 0
      · have hnext := DecInv.neg h0 h1 hinv c1
        obtain ⟨t1, t2⟩ := dec_neg m c1
        have r0 : 0 ≤ -m % 10 := by omega
        have r1 : -m % 10 < 10 := by omega
        have q1 : (-(-m / 10)).natAbs < m.natAbs := by omega
        have q2 : -9223372036854775808 ≤ -(-m / 10) := by omega
        have q3 : -(-m / 10) ≤ 9223372036854775807 := by omega
        generalize -m % 10 = r at *
        generalize -(-m / 10) = q at *
        have HN := Lib.hid hnext
        have HQ := Lib.hid q1
        clear hnext hinv q1
        by_cases c2 : 0 < r
        · go_wp2_with (at_builtin; refine wpList_append_own _ rfl _ _ 47 rfl w.heap.size 5 i0 (.int .u8 0) 1 1 Tryd.underlying47 hi hz0 hz1 hz2 rfl (by decide) _ _ _ rfl (hown.alloc _) ⟨wr.heap.size, 0, none⟩ 1 1 [.int .u8 (48 + r)] rfl rfl ?c1 ?c2 ?c3 ?c4 ?c5 ?_)
          case c1 => exact one_cell _ _ _ _
          case c2 => exact one_plain _ _
          case c3 => unfold maxLen; omega
          case c4 => omega
          case c5 => simp; omega
          intro v' w1 hown' hgrow _
          obtain ⟨hb1, hs1⟩ := own_below hown hbel hsz hgrow
          have ho : w1.ownsRow w.heap.size 5 1 v' (xs ++ [48 + r]).length ((xs ++ [48 + r]).map (Value.int .u8)) := by simpa using hown'
          clear hown hown' hgrow hbel hsz
          go_wp2_with fail
          go_roundw
          case rel => exact ⟨_, _, rfl, ho, hb1, hs1, HN.out⟩
          case measure => exact HQ.out
        · obtain rfl : r = 0 := by omega
          have t1' : m.tmod 10 = 0 := by rw [t1]; rfl
          clear t1 c2
          go_wp2_with (at_builtin; refine wpList_append_own _ rfl _ _ 47 rfl w.heap.size 5 i0 (.int .u8 0) 1 1 Tryd.underlying47 hi hz0 hz1 hz2 rfl (by decide) _ _ _ rfl (hown.alloc _) ⟨wr.heap.size, 0, none⟩ 1 1 [.int .u8 (48 + 0)] rfl rfl ?c1 ?c2 ?c3 ?c4 ?c5 ?_)
          case c1 => exact one_cell _ _ _ _
          case c2 => exact one_plain _ _
          case c3 => unfold maxLen; omega
          case c4 => omega
          case c5 => simp; omega
          intro v' w1 hown' hgrow _
          obtain ⟨hb1, hs1⟩ := own_below hown hbel hsz hgrow
          have ho : w1.ownsRow w.heap.size 5 1 v' (xs ++ [48 + 0]).length ((xs ++ [48 + 0]).map (Value.int .u8)) := by simpa using hown'
          clear hown hown' hgrow hbel hsz
          go_wp2_with fail
          go_roundw
          case rel => exact ⟨_, _, rfl, ho, hb1, hs1, HN.out⟩
          case measure => exact HQ.out
      · have hnext := DecInv.pos h0 h1 hinv (by omega)
        have HN := Lib.hid hnext
        clear hnext hinv
        have hp : 0 ≤ m := by omega
        have r0 : 0 ≤ m % 10 := by omega
        have r1 : m % 10 < 10 := by omega
        clear c1
        go_wp2_with (at_builtin; refine wpList_append_own _ rfl _ _ 47 rfl w.heap.size 5 i0 (.int .u8 0) 1 1 Tryd.underlying47 hi hz0 hz1 hz2 rfl (by decide) _ _ _ rfl (hown.alloc _) ⟨wr.heap.size, 0, none⟩ 1 1 [.int .u8 (48 + m % 10)] rfl rfl ?c1 ?c2 ?c3 ?c4 ?c5 ?_)
        case c1 => exact one_cell _ _ _ _
        case c2 => exact one_plain _ _
        case c3 => unfold maxLen; omega
        case c4 => omega
        case c5 => simp; omega
        intro v' w1 hown' hgrow _
        obtain ⟨hb1, hs1⟩ := own_below hown hbel hsz hgrow
        have ho : w1.ownsRow w.heap.size 5 1 v' (xs ++ [48 + m % 10]).length ((xs ++ [48 + m % 10]).map (Value.int .u8)) := by simpa using hown'
        clear hown hown' hgrow hbel hsz
        go_wp2_with fail
        go_roundw
        case rel => exact ⟨_, _, rfl, ho, hb1, hs1, HN.out⟩
        case measure => (simp [intOf] <;> omega)

set_option maxHeartbeats 400000 in
theorem l01Dec_any (n : Int) (w : World) (h0 : -9223372036854775808 ≤ n) (h1 : n ≤ 9223372036854775807) :
    Calls Tryd.prog 67 #[.int .i64 n] w fun e w' => e = .returned (.string ⟨(Lib.itoa n).toArray⟩) ∧ Below w.heap.size w w' := by
  by_cases hz : n = 0
  · subst hz
    go_enter Tryd.func67, Tryd.ntmps67
    go_wp2_with fail
    go_ret
    exact ⟨ret_str (by rw [itoa_zero]), Below.refl _ _⟩
  · by_cases c : n < 0
    · exact l01Dec_neg n w h0 h1 c
    · exact l01Dec_pos n w h0 h1 (by omega)

set_option maxHeartbeats 400000 in
theorem implDec_any (n : Int) (w : World) (h0 : -9223372036854775808 ≤ n) (h1 : n ≤ 9223372036854775807) (ht : TabOK w) :
    Calls Tryd.prog 33 #[.int .i64 n] w fun e w' => e = .returned (.string ⟨(Lib.itoa n).toArray⟩) ∧ Below w.heap.size w w' := by
  go_enter Tryd.func33, Tryd.ntmps33
  go_wp2_with fail
  refine (Tryd.strconv_FormatInt_10 _ h0 h1 _ ht).mono ?_
  rintro e w' ⟨rfl, k, os, rfl⟩
  go_wp2_with fail
  go_ret
  exact ⟨rfl, Lib.below_grow _ _ (Nat.le_refl _) _ _⟩
end Go.Proofs.YtjghopepgfgebaaDoor
