/-
  CuesBetween (both packages): indices in order, and those from one place to another.
-/
import Derived.Test.YtfloppjkfcbgiaaCueN
import Derived.Test.YtfloppjkfcbgiaaInO
import Derived.Sort.OwnSortedInts
import Derived.Deep.AppendLies
namespace Go.Proofs.Ytfloppjkfcbgiaa.Cue
open Go.RowKit
open Go.Sort (Holds putRow size_putRow holds_putRow cell?_putRow_other grow cell?_grow)
set_option linter.unusedVariables false

theorem info_i64k : (Try.prog.info? 2).map (fun i => (i.zero, i.size, i.bytes)) = some (some (.int .i64 0), 1, 8) := by kernel_rfl
/-- A row of numbers. -/
def KRow (w : World) (g n : Nat) (L : List Int) : Prop := w.rowIs g 2 n (fun k => .int .i64 (L.getD k 0))
theorem KRow.at {w : World} {g n : Nat} {L : List Int} (h : KRow w g n L) (j : Nat) (hj : j < n) : w.cell? ⟨g, j, none⟩ = some (.int .i64 (L.getD j 0)) := World.rowIs.cell h hj
theorem KRow.lt {w : World} {g n : Nat} {L : List Int} (h : KRow w g n L) : g < w.heap.size := World.rowIs.lt h
theorem KRow.free {w : World} {g n : Nat} {L : List Int} (h : KRow w g n L) (i : Nat) : w.frozen? ⟨g, i, none⟩ = false := World.rowIs.frozen h i
theorem KRow.below {w w' : World} {g n : Nat} {L : List Int} (h : KRow w g n L) (hb : Below w.heap.size w w') : KRow w' g n L := World.rowIs.of_block h (hb.block g h.lt)
theorem KRow.put {w : World} {g n : Nat} {L : List Int} (h : KRow w g n L) (i : Nat) (hi : i < n) (hL : L.length = n) (v : Int) : KRow (w.setCell ⟨g, i, none⟩ (.int .i64 v)) g n (L.set i v) := by
  refine World.rowIs.congr (World.rowIs.set h i (.int .i64 v)) (fun k hk => ?_)
  show (if k = i then Value.int .i64 v else .int .i64 (L.getD k 0)) = .int .i64 ((L.set i v).getD k 0)
  by_cases c : k = i
  · subst c
    rw [if_pos rfl, List.getD, List.getElem?_set_self (by omega)]
    rfl
  · rw [if_neg c, List.getD, List.getD, List.getElem?_set_ne (fun e => c e.symm)]
theorem KRow.made (w : World) (n : Nat) : KRow (w.alloc (.cells (madeCells #[.int .i64 0] n) 2)) w.heap.size n (List.replicate n 0) := by
  refine World.rowIs.congr (World.rowIs_made w (.int .i64 0) n 2) (fun k hk => ?_)
  show Value.int .i64 0 = .int .i64 ((List.replicate n (0 : Int)).getD k 0)
  rw [List.getD, List.getElem?_replicate, if_pos hk]
  rfl
/-- The first j indices, then zeros. -/
def idxL (n j : Nat) : List Int := (List.range j).map (fun k : Nat => (k : Int)) ++ List.replicate (n - j) 0
theorem idxL_len (n j : Nat) (h : j ≤ n) : (idxL n j).length = n := by simp [idxL]; omega
theorem idxL_zero (n : Nat) : idxL n 0 = List.replicate n 0 := rfl
theorem idxL_set (n j : Nat) (h : j < n) : (idxL n j).set j (j : Int) = idxL n (j + 1) := by
  unfold idxL
  have hl : ((List.range j).map (fun k : Nat => (k : Int))).length = j := by simp
  have e : n - j = (n - (j + 1)) + 1 := by omega
  rw [List.set_append_right _ _ (by omega), hl, Nat.sub_self, e, List.replicate_succ, List.set_cons_zero, List.range_succ, List.map_append, List.append_assoc]
  rfl
set_option maxRecDepth 100000 in
set_option maxHeartbeats 1000000 in
theorem indicesOf_any (n : Nat) (hn : n ≤ 1000) (w : World) : Calls Try.prog 79 #[.int .i64 (n : Int)] w fun e w' => e = .returned (.slice (some ⟨w.heap.size, 0, none⟩) n n) ∧ KRow w' w.heap.size n (idxL n n) ∧ Below w.heap.size w w' := by
  have hmk := run_make_row' (P := Try.prog) 52 2 (.int .i64 0) 8 Try.underlying52 info_i64k rfl .i64 .i64 n (by omega) (by omega)
  have MK := Lib.hid (KRow.made w n)
  go_enter Try.func79, Try.ntmps79
  go_wp2_with fail
  clear hmk
  go_loopg [9] (n + 1) (fun kx s9 wr => ∃ j : Nat, s9 = .int .i64 (j : Int) ∧ j ≤ n ∧ kx = n + 1 - j ∧ Hid (KRow wr w.heap.size n (idxL n j)) ∧ Hid (Below w.heap.size w wr))
  case atStart => exact ⟨0, rfl, Nat.zero_le _, rfl, Lib.hid (by rw [idxL_zero]; exact MK.out), Lib.hid ((Below.refl _ _).alloc (Nat.le_refl _) _)⟩
  case round =>
    obtain ⟨j, rfl, hj, rfl, HK, HB⟩ := hrel
    by_cases hlt : j < n
    · have c0 := HK.out.at j hlt
      have f0 := HK.out.free j
      have PT := HK.out.put j hlt (idxL_len n j hj) (j : Int)
      rw [idxL_set n j hlt] at PT
      have HK2 := Lib.hid PT
      have HB2 := Lib.hid (HB.out.setCell (p := ⟨w.heap.size, j, none⟩) (Nat.le_refl _) (.int .i64 (j : Int)))
      have j0 : (0 : Int) ≤ (j : Int) := by omega
      have j1 : (j : Int) < (n : Int) := by omega
      clear PT HK
      generalize (idxL n j).getD j 0 = z at *
      go_wp2_with fail
      go_roundg (n + 1 - (j + 1))
      case measure => omega
      case rel => exact ⟨j + 1, by go_num, by omega, rfl, HK2, HB2⟩
    · obtain rfl : j = n := by omega
      go_wp2_with fail
      go_returns
      exact ⟨rfl, HK.out, HB.out⟩


def iota (n : Nat) : List Int := (List.range n).map (fun i : Nat => (i : Int))
theorem iota_len (n : Nat) : (iota n).length = n := by simp [iota]
theorem iota_succ (n : Nat) : iota (n + 1) = iota n ++ [(n : Int)] := by simp [iota, List.range_succ]
theorem idxL_all (n : Nat) : idxL n n = iota n := by simp [idxL, iota]
/-- Those below j of the places from A up to B. -/
def sp (A B j : Nat) : List Int := (iota (min j B)).drop A
theorem sp_yes {A B j : Nat} (h1 : A ≤ j) (h2 : j < B) : sp A B (j + 1) = sp A B j ++ [(j : Int)] := by
  unfold sp
  rw [Nat.min_eq_left (show j + 1 ≤ B by omega), Nat.min_eq_left (show j ≤ B by omega), iota_succ, List.drop_append_of_le_length (by rw [iota_len]; exact h1)]
theorem sp_no {A B j : Nat} (h : ¬ (A ≤ j ∧ j < B)) : sp A B (j + 1) = sp A B j := by
  unfold sp
  by_cases c : j < B
  · rw [List.drop_eq_nil_of_le (by rw [iota_len]; omega), List.drop_eq_nil_of_le (by rw [iota_len]; omega)]
  · rw [Nat.min_eq_right (show B ≤ j + 1 by omega), Nat.min_eq_right (show B ≤ j by omega)]
theorem sp_len (A B j : Nat) : (sp A B j).length ≤ j := by
  unfold sp
  rw [List.length_drop, iota_len]
  omega
theorem sp_zero (A B : Nat) : sp A B 0 = [] := by
  unfold sp
  rw [Nat.zero_min]
  simp [iota]
theorem sp_all {A B n : Nat} (hB : B ≤ n) : sp A B n = ((iota n).drop A).take (B - A) := by
  unfold sp
  rw [Nat.min_eq_right hB]
  apply List.ext_getElem?
  intro k
  rw [List.getElem?_drop, List.getElem?_take, List.getElem?_drop]
  by_cases c : A + k < B
  · rw [if_pos (by omega)]
    simp [iota, List.getElem?_range c, List.getElem?_range (show A + k < n by omega)]
  · rw [if_neg (by omega), List.getElem?_eq_none (by rw [iota_len]; omega)]
def btwV (zs : List V) (a b : Int) : List Int × Int :=
  if cuesB zs = true then (if (inR 0 7200000 [a] && inR a 7200001 [b]) = true then (sp (latN zs a) (latN zs b) zs.length, 0) else ([], 2)) else ([], 1)
theorem btwV_len (zs : List V) (a b : Int) : (btwV zs a b).1.length ≤ zs.length := by
  unfold btwV
  split
  · split
    · exact sp_len _ _ _
    · exact Nat.zero_le _
  · exact Nat.zero_le _
theorem lat_le {zs : List V} (h : cuesB zs = true) {a b : Int} (hab : a ≤ b) : latN zs a ≤ latN zs b := by
  by_cases c : latN zs b < zs.length
  · exact (latN_iff h a _ c).1 (Int.le_trans hab ((latN_iff h b _ c).2 (Nat.le_refl _)))
  · exact Nat.le_trans (latN_le zs a) (by omega)
def IPost (r : List Int × Int) (w : World) (e : Ending) (w' : World) : Prop := ∃ v, e = .returned (.tuple #[v, .int .i64 r.2]) ∧ In.Own w' w.heap.size w'.heap.size v r.1 ∧ Below w.heap.size w w'
theorem own_belowI {B : Nat} {w0 w w1 : World} {v : Value} {n : Nat} {xs : List Value} {o : Obj} (hown : w.ownsRow B 2 1 v n xs) (hb : Below B w0 w) (hB : B ≤ w.heap.size)
    (hg : (w.alloc o).grownBy w1 v.ownBlock) : Below B w0 w1 :=
  (hb.alloc hB o).grown hg (by simp; omega) (fun k hk => (hown.lt k hk).1)
theorem one_cellI (w : World) (T : TypeId) (a : Int) : ∀ (j : Nat) u, [Value.int .i64 a][j]? = some u → (w.alloc (.cells #[.int .i64 a] T)).cell? ((⟨w.heap.size, 0, none⟩ : Addr).add j) = some u := by
  intro j u hj
  match j, hj with
  | 0, hj => simp at hj; subst hj; simp [Addr.add]
theorem one_plainI (a : Int) : ∀ u ∈ [Value.int .i64 a], u.oneCell' = true := by
  intro u hu
  simp at hu
  subst hu
  rfl

set_option maxRecDepth 100000 in
set_option maxHeartbeats 4000000 in
theorem between_any (g cap : Nat) (zs : List V) (a b : Int) (w : World) (hb : zs.length ≤ 1048577) (h1 : Row w g zs) (ho : cuesB zs = true) :
    Calls Try.prog 78 #[.slice (some ⟨g, 0, none⟩) zs.length cap, .int .i64 a, .int .i64 b] w fun e w' => ∃ v : Value, e = .returned v ∧ In.Own w' w.heap.size w'.heap.size v (sp (latN zs a) (latN zs b) zs.length) ∧ Below w.heap.size w w' := by
  have H1 := Lib.hid h1
  have hz32 := cuesB_len ho
  have LA := Lib.hid (latN_iff ho a)
  have LBt := Lib.hid (latN_iff ho b)
  have SY := Lib.hid (fun j => @sp_yes (latN zs a) (latN zs b) j)
  have SNo := Lib.hid (fun j => @sp_no (latN zs a) (latN zs b) j)
  have SL := Lib.hid (sp_len (latN zs a) (latN zs b))
  have S0 : sp (latN zs a) (latN zs b) 0 = [] := sp_zero _ _
  clear h1 ho
  generalize sp (latN zs a) (latN zs b) = L at *
  generalize latN zs a = A at *
  generalize latN zs b = B at *
  obtain ⟨i0, hi, hzz⟩ := Option.map_eq_some_iff.1 info_i64k
  simp only [Prod.mk.injEq] at hzz
  obtain ⟨hz0, hz1, hz2⟩ := hzz
  have HI0 := Lib.hid hi
  have HZ0 := Lib.hid hz0
  have HZ1 := Lib.hid hz1
  have HZ2 := Lib.hid hz2
  clear hi hz0 hz1 hz2
  have ST : Hid ((w.alloc (.cells #[] 2)).ownsRow w.heap.size 2 1 (.slice (some ⟨w.heap.size, 0, none⟩) 0 0) (L 0).length ((L 0).map fun x => .int .i64 x)) := Lib.hid (by
    rw [S0]
    exact World.ownsRow_lit (base := w.heap.size) (e := 2) (size := 1) w #[] 0 (Nat.le_refl _) (by decide) rfl)
  have l0 : (L 0).length = 0 := by rw [S0]; rfl
  have HB0 : Hid (Below w.heap.size w (w.alloc (.cells #[] 2))) := Lib.hid ((Below.refl _ _).alloc (Nat.le_refl _) _)
  clear S0
  go_enter Try.func78, Try.ntmps78
  go_wp2_with fail
  go_loopg [7, 8] (zs.length + 1) (fun kx s7 s8 wr => ∃ (j m : Nat) (ad : Option Addr) (cap7 : Nat), s7 = .slice ad m cap7 ∧ s8 = .int .i64 (j : Int) ∧ Hid (m = (L j).length) ∧ j ≤ zs.length ∧ kx = zs.length + 1 - j ∧ Hid (wr.ownsRow w.heap.size 2 1 (.slice ad m cap7) (L j).length ((L j).map fun x => .int .i64 x)) ∧ Hid (Below w.heap.size w wr))
  case atStart => exact ⟨0, 0, _, _, rfl, rfl, Lib.hid l0.symm, Nat.zero_le _, rfl, ST, HB0⟩
  case round =>
    obtain ⟨j, m, ad, cap7, rfl, rfl, HM, hj, rfl, HO, HB⟩ := hrel
    by_cases hlt : j < zs.length
    · have j0 : (0 : Int) ≤ (j : Int) := by omega
      have j1 : (j : Int) < (zs.length : Int) := by omega
      obtain ⟨c0, c1, c2, c3, c4, c5⟩ := (H1.out.below HB.out).at j hlt
      have la := LA.out j hlt
      have lb := LBt.out j hlt
      rw [getD_at zs j hlt] at la lb
      have sl := SL.out j
      have sy := SY.out j
      have sn := SNo.out j
      clear c0 c2 c3 c4 c5
      generalize zs[j].f1 = p at *
      by_cases ha : a ≤ p
      · by_cases hbt : p < b
        · have e := sy (la.1 ha) (by have : ¬ b ≤ p := by omega
                                     rw [lb] at this
                                     omega)
          have HE := Lib.hid e
          have hml : m ≤ j := by have := HM.out; omega
          have hO := HO.out
          rw [← HM.out] at hO
          clear sl
          have hi := HI0.out
          have hz0 := HZ0.out
          have hz1 := HZ1.out
          have hz2 := HZ2.out
          have hsB := HB.out.size
          clear e sy sn la lb
          go_wp2_with (at_builtin; refine wpList_append_lies _ rfl _ _ 52 rfl w.heap.size 2 i0 (.int .i64 0) 1 8 Try.underlying52 hi hz0 hz1 hz2 rfl (by decide) _ _ _ rfl (hO.alloc _) ⟨wr.heap.size, 0, none⟩ 1 1 [.int .i64 (j : Int)] rfl rfl ?c1 ?c2 ?c0 ?c3 ?c4 ?c5 (wr.heap.size + 1) ?c6 ?_)
          case c1 => exact one_cellI _ _ _
          case c2 => exact one_plainI _
          case c0 => omega
          case c3 => unfold maxLen; omega
          case c4 => omega
          case c5 => simp; omega
          case c6 => simp
          intro gg cap3 w5 hown' hgrow hlies hlt3
          have HB5 := Lib.hid (own_belowI hO HB.out hsB hgrow)
          have hl2 : m + 1 = (L (j + 1)).length := by rw [HE.out, List.length_append, ← HM.out]; rfl
          have HL2 := Lib.hid hl2
          have O5 : Hid (w5.ownsRow w.heap.size 2 1 (.slice (some ⟨gg, 0, none⟩) (m + 1) cap3) (L (j + 1)).length ((L (j + 1)).map fun x => .int .i64 x)) := Lib.hid (by
            rw [← hl2, HE.out, List.map_append]
            exact hown')
          clear hown' hgrow hlies hO hi hz0 hz1 hz2 hl2
          go_wp2_with fail
          go_roundg (zs.length + 1 - (j + 1))
          case measure => omega
          case rel => exact ⟨j + 1, m + 1, _, _, rfl, by go_num, HL2, by omega, by omega, O5, HB5⟩
        · have e := sn (by
            rintro ⟨_, h2⟩
            have : ¬ B ≤ j := by omega
            rw [← lb] at this
            omega)
          have HE := Lib.hid e
          clear e sy sn la lb
          go_wp2_with fail
          go_roundg (zs.length + 1 - (j + 1))
          case measure => omega
          case rel => exact ⟨j + 1, m, _, _, rfl, by go_num, by rw [HE.out]; exact HM, by omega, by omega, by rw [HE.out]; exact HO, HB⟩
      · have e := sn (by
          rintro ⟨h2, _⟩
          exact ha (la.2 h2))
        have HE := Lib.hid e
        clear e sy sn la lb
        go_wp2_with fail
        go_roundg (zs.length + 1 - (j + 1))
        case measure => omega
        case rel => exact ⟨j + 1, m, _, _, rfl, by go_num, by rw [HE.out]; exact HM, by omega, by omega, by rw [HE.out]; exact HO, HB⟩
    · obtain rfl : j = zs.length := by omega
      go_wp2_with fail
      go_returns
      exact ⟨_, rfl, In.Own.of_row HO.out, HB.out⟩

set_option maxRecDepth 100000 in
set_option maxHeartbeats 2000000 in
theorem specBtw_any (g cap : Nat) (zs : List V) (a b : Int) (w : World) (hb : zs.length ≤ 1048577) (h1 : Row w g zs) :
    Calls Try.prog 40 #[.slice (some ⟨g, 0, none⟩) zs.length cap, .int .i64 a, .int .i64 b] w (IPost (btwV zs a b) w) := by
  have V := Lib.hid (okS_any g cap zs w hb h1)
  have BT := Lib.hid (fun (W : World) (hB : Below w.heap.size w W) ho => between_any g cap zs a b W hb (h1.below hB) ho)
  have T1 := Lib.hid (fun w => l13Time_any a w)
  have T2 := Lib.hid (fun w => l00In_any b a 7200001 w)
  clear h1
  unfold btwV
  cases ho : cuesB zs with
  | false =>
    rw [if_neg (by simp)]
    rw [ho] at V
    clear ho BT
    go_enter Try.func40, Try.ntmps40
    go_wp2_with fail
    refine V.out.mono ?_
    rintro e w1 ⟨rfl, hb1⟩
    have HB1 := Lib.hid hb1
    clear hb1
    go_wp2_with fail
    go_ret2
    exact ⟨_, rfl, In.Own.nil _ _ _ _ _, HB1.out⟩
  | true =>
    rw [if_pos rfl]
    rw [ho] at V
    cases ha : inR 0 7200000 [a] with
    | false =>
      rw [ha] at T1
      rw [Bool.false_and, if_neg (by simp)]
      clear ho ha BT
      go_enter Try.func40, Try.ntmps40
      go_wp2_with fail
      refine V.out.mono ?_
      rintro e w1 ⟨rfl, hb1⟩
      have HB1 := Lib.hid hb1
      clear hb1
      go_wp2_with fail
      refine (T1.out _).mono ?_
      rintro e w' ⟨rfl, rfl⟩
      go_wp2_with fail
      go_ret2
      exact ⟨_, rfl, In.Own.nil _ _ _ _ _, HB1.out⟩
    | true =>
      rw [ha] at T1
      rw [Bool.true_and]
      cases hr : inR a 7200001 [b] with
      | false =>
        rw [hr] at T2
        rw [if_neg (by simp)]
        clear ho ha hr BT
        go_enter Try.func40, Try.ntmps40
        go_wp2_with fail
        refine V.out.mono ?_
        rintro e w1 ⟨rfl, hb1⟩
        have HB1 := Lib.hid hb1
        clear hb1
        go_wp2_with fail
        refine (T1.out _).mono ?_
        rintro e w' ⟨rfl, rfl⟩
        go_wp2_with fail
        refine (T2.out _).mono ?_
        rintro e w' ⟨rfl, rfl⟩
        go_wp2_with fail
        go_ret2
        exact ⟨_, rfl, In.Own.nil _ _ _ _ _, HB1.out⟩
      | true =>
        rw [hr] at T2
        rw [if_pos rfl]
        have BT2 := Lib.hid (fun W hB => BT.out W hB ho)
        clear ho ha hr BT
        generalize sp (latN zs a) (latN zs b) zs.length = R at *
        go_enter Try.func40, Try.ntmps40
        go_wp2_with fail
        refine V.out.mono ?_
        rintro e w1 ⟨rfl, hb1⟩
        have HB1 := Lib.hid hb1
        clear hb1
        go_wp2_with fail
        refine (T1.out _).mono ?_
        rintro e w' ⟨rfl, rfl⟩
        go_wp2_with fail
        refine (T2.out _).mono ?_
        rintro e w' ⟨rfl, rfl⟩
        go_wp2_with fail
        refine (BT2.out _ HB1.out).mono ?_
        rintro e w2 ⟨v, rfl, hown, hb2⟩
        have HO := Lib.hid (hown.le HB1.out.size (Nat.le_refl _))
        have HB2 := Lib.hid (HB1.out.trans (hb2.mono HB1.out.size))
        clear hown hb2
        go_wp2_with fail
        go_ret2
        exact ⟨_, rfl, HO.out, HB2.out⟩

set_option maxRecDepth 100000 in
set_option maxHeartbeats 2000000 in
theorem implBtw_any (g cap : Nat) (zs : List V) (a b : Int) (w : World) (hb : zs.length ≤ 1048577) (h1 : Row w g zs) (hok : ∀ j, (h : j < zs.length) → zs[j].txt) :
    Calls Try.prog 41 #[.slice (some ⟨g, 0, none⟩) zs.length cap, .int .i64 a, .int .i64 b] w (IPost (btwV zs a b) w) := by
  have V := Lib.hid (implValid_any g cap zs w hb h1 hok)
  have H1 := Lib.hid h1
  have T1 := Lib.hid (fun bl cap w hc => areTimes1 a bl cap w hc)
  have T2 := Lib.hid (fun bl cap w hc => within1 a 7200001 b bl cap w hc)
  clear h1 hok
  unfold btwV
  cases ho : cuesB zs with
  | false =>
    rw [if_neg (by simp)]
    rw [ho] at V
    clear ho
    go_enter Try.func41, Try.ntmps41
    go_wp2_with fail
    refine V.out.mono ?_
    rintro e w1 ⟨rfl, hb1⟩
    have HB1 := Lib.hid hb1
    clear hb1
    go_wp2_with fail
    go_ret2
    exact ⟨_, rfl, In.Own.nil _ _ _ _ _, HB1.out⟩
  | true =>
    rw [if_pos rfl]
    rw [ho] at V
    cases ha : inR 0 7200000 [a] with
    | false =>
      rw [ha] at T1
      rw [Bool.false_and, if_neg (by simp)]
      clear ho ha
      go_enter Try.func41, Try.ntmps41
      go_wp2_with fail
      refine V.out.mono ?_
      rintro e w1 ⟨rfl, hb1⟩
      have HB1 := Lib.hid hb1
      clear hb1
      go_wp2_with fail
      refine (T1.out _ _ _ (by first | (simp; done) | (rw [World.cell?_alloc_at _ _ _ _ (by simp)]; rfl) | (rw [World.cell?_alloc_at]; rfl))).mono ?_
      rintro e w' ⟨rfl, rfl⟩
      go_wp2_with fail
      go_ret2
      exact ⟨_, rfl, In.Own.nil _ _ _ _ _, HB1.out.alloc HB1.out.size _⟩
    | true =>
      rw [ha] at T1
      rw [Bool.true_and]
      cases hr : inR a 7200001 [b] with
      | false =>
        rw [hr] at T2
        rw [if_neg (by simp)]
        clear ho ha hr
        go_enter Try.func41, Try.ntmps41
        go_wp2_with fail
        refine V.out.mono ?_
        rintro e w1 ⟨rfl, hb1⟩
        have HB1 := Lib.hid hb1
        clear hb1
        go_wp2_with fail
        refine (T1.out _ _ _ (by first | (simp; done) | (rw [World.cell?_alloc_at _ _ _ _ (by simp)]; rfl) | (rw [World.cell?_alloc_at]; rfl))).mono ?_
        rintro e w' ⟨rfl, rfl⟩
        have HB2 := Lib.hid (HB1.out.alloc HB1.out.size (Obj.cells #[.int .i64 a] 2))
        go_wp2_with fail
        refine (T2.out _ _ _ (by first | (simp; done) | (rw [World.cell?_alloc_at _ _ _ _ (by simp)]; rfl) | (rw [World.cell?_alloc_at]; rfl))).mono ?_
        rintro e w' ⟨rfl, rfl⟩
        have HB3 := Lib.hid (HB2.out.alloc HB2.out.size (Obj.cells #[.int .i64 b] 2))
        go_wp2_with fail
        go_ret2
        exact ⟨_, rfl, In.Own.nil _ _ _ _ _, HB3.out⟩
      | true =>
        rw [hr] at T2
        rw [if_pos rfl]
        have hab := ((inR_1 _ _ _).1 hr).1
        have hz32 := cuesB_len ho
        have F1 := Lib.hid (fun (W : World) (h : Row W g zs) => firstFrom_any g cap zs a W h ho)
        have F2 := Lib.hid (fun (W : World) (h : Row W g zs) => firstFrom_any g cap zs b W h ho)
        have IX := Lib.hid (fun w => indicesOf_any zs.length (by omega) w)
        have hAB := lat_le ho hab
        have hBn := latN_le zs b
        obtain ⟨R, hR⟩ : ∃ R, R = sp (latN zs a) (latN zs b) zs.length := ⟨_, rfl⟩
        rw [← hR]
        rw [sp_all hBn, ← idxL_all] at hR
        have il := idxL_len zs.length zs.length (Nat.le_refl _)
        have HR := Lib.hid hR
        have HL := Lib.hid il
        clear ho ha hr hR il hab
        generalize latN zs a = A at *
        generalize latN zs b = B at *
        generalize idxL zs.length zs.length = J at *
        go_enter Try.func41, Try.ntmps41
        go_wp2_with fail
        refine V.out.mono ?_
        rintro e w1 ⟨rfl, hb1⟩
        have HB1 := Lib.hid hb1
        clear hb1
        go_wp2_with fail
        refine (T1.out _ _ _ (by first | (simp; done) | (rw [World.cell?_alloc_at _ _ _ _ (by simp)]; rfl) | (rw [World.cell?_alloc_at]; rfl))).mono ?_
        rintro e w' ⟨rfl, rfl⟩
        have HB2 := Lib.hid (HB1.out.alloc HB1.out.size (Obj.cells #[.int .i64 a] 2))
        go_wp2_with fail
        refine (T2.out _ _ _ (by first | (simp; done) | (rw [World.cell?_alloc_at _ _ _ _ (by simp)]; rfl) | (rw [World.cell?_alloc_at]; rfl))).mono ?_
        rintro e w' ⟨rfl, rfl⟩
        have HB3 := Lib.hid (HB2.out.alloc HB2.out.size (Obj.cells #[.int .i64 b] 2))
        go_wp2_with fail
        obtain ⟨W3, hW3⟩ : ∃ W, W = (w1.alloc (Obj.cells #[.int .i64 a] 2)).alloc (Obj.cells #[.int .i64 b] 2) := ⟨_, rfl⟩
        rw [← hW3] at HB3
        try rw [← hW3]
        clear hW3 HB2
        refine (IX.out _).mono ?_
        rintro e w4 ⟨rfl, hk4, hb4⟩
        have HK4 := Lib.hid hk4
        have hs3 := HB3.out.size
        have HB4 := Lib.hid (HB3.out.trans (hb4.mono HB3.out.size))
        have hlk := hk4.lt
        clear hb4 hk4
        generalize W3.heap.size = h at *
        go_wp2_with fail
        refine (F1.out _ (H1.out.below HB4.out)).mono ?_
        rintro e w5 ⟨rfl, hb5⟩
        have HK5 := Lib.hid (HK4.out.below hb5)
        have HB5 := Lib.hid (HB4.out.trans (hb5.mono HB4.out.size))
        clear hb5
        go_wp2_with fail
        refine (F2.out _ (H1.out.below HB5.out)).mono ?_
        rintro e w6 ⟨rfl, hb6⟩
        have HK6 := Lib.hid (HK5.out.below hb6)
        have HB6 := Lib.hid (HB5.out.trans (hb6.mono HB5.out.size))
        clear hb6
        have AB : (A : Int) ≤ (B : Int) := by omega
        have A0 : (0 : Int) ≤ (A : Int) := by omega
        have Bn : (B : Int) ≤ (zs.length : Int) := by omega
        have PT : Hid (In.Part w6 w.heap.size w6.heap.size h 0 zs.length J) := Lib.hid (by
          obtain ⟨c, hb, hn, hc⟩ := HK6.out
          refine ⟨c, hs3, HK6.out.lt, hb, fun j hj => ?_⟩
          rw [Nat.zero_add, hc j (by rw [← HL.out]; exact hj)]
          show some (Value.int .i64 (J.getD j 0)) = _
          rw [List.getD, List.getElem?_eq_getElem hj]
          rfl)
        have RL : Hid (R.length = B - A) := Lib.hid (by rw [HR.out, List.length_take, List.length_drop, HL.out]; omega)
        by_cases hA : zs.length = A
        · have hif : (if zs.length = A then some (⟨h, 0, none⟩ : Addr) else some ⟨h, A, none⟩) = some ⟨h, 0, none⟩ := if_pos hA
          have hBA : B = A := by omega
          have hnil : Hid (R = []) := Lib.hid (List.length_eq_zero_iff.1 (by rw [RL.out]; omega))
          go_wp2_with fail
          go_ret2
          refine ⟨_, rfl, ?_, HB6.out⟩
          show In.Own _ _ _ _ R
          rw [hnil.out]
          first | exact In.Own.nil _ _ _ _ _ | (rw [hBA, Nat.sub_self]; exact In.Own.nil _ _ _ _ _) | (simp only [hBA, Nat.sub_self]; exact In.Own.nil _ _ _ _ _)
        · have hif : (if zs.length = A then some (⟨h, 0, none⟩ : Addr) else some ⟨h, A, none⟩) = some ⟨h, A, none⟩ := if_neg hA
          go_wp2_with fail
          go_ret2
          refine ⟨_, rfl, ?_, HB6.out⟩
          show In.Own _ _ _ _ R
          have P2 := (PT.out.sub (cap' := zs.length - A) A B hAB (by rw [HL.out]; exact hBn)).own
          rw [← HR.out, RL.out] at P2
          exact P2
end Go.Proofs.Ytfloppjkfcbgiaa.Cue
