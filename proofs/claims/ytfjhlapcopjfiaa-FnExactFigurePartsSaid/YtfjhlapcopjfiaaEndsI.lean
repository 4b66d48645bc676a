/-
  The stars of a figure (package impl): the contracts of slices.Concat at its lines and of ends.
-/
import Derived.Test.YtfjhlapcopjfiaaEnds
import Derived.Test.YtfjhlapcopjfiaaShelfSort
import Derived.Sort.OwnSortedInts
import Derived.Deep.LoopGhost
namespace Go.Proofs.Ytfjhlapcopjfiaa
open Go.RowKit Go.Lib
set_option linter.unusedVariables false

theorem zero_i64 (w : World) : (zeroValue 2).run Try.prog w = .ok (.int .i64 0) w := by kernel_rfl
def upL (ls : List (List Int)) (j : Nat) : List Int := (ls.take j).flatten
theorem upL_next (ls : List (List Int)) (j : Nat) (h : j < ls.length) (a c : Int) (hac : ls[j] = [a, c]) : upL ls (j + 1) = upL ls j ++ [a, c] := by
  unfold upL
  rw [List.take_succ_eq_append_getElem h, hac, List.flatten_append]
  simp
theorem upL_len (ls : List (List Int)) (hl : ∀ j, (h : j < ls.length) → ∃ a c : Int, ls[j] = [a, c]) (j : Nat) (hj : j ≤ ls.length) : (upL ls j).length = 2 * j := by
  induction j with
  | zero => simp [upL]
  | succ j ih =>
    obtain ⟨a, c, hac⟩ := hl j (by omega)
    rw [upL_next ls j (by omega) a c hac, List.length_append, ih (by omega)]
    simp only [List.length_cons, List.length_nil]
    omega

set_option maxRecDepth 100000 in
set_option maxHeartbeats 1000000 in
/-- Grow of nil: room for n numbers. -/
theorem grow_any (n : Nat) (hn : n ≤ 32) (w : World) :
    Calls Try.prog 143 #[.slice none 0 0, .int .i64 (n : Int)] w fun e w' => ∃ v, e = .returned v ∧ w'.ownsRow w.heap.size 2 1 v 0 [] ∧ Below w.heap.size w w' := by
  by_cases h0 : n = 0
  · subst h0
    have h := Any8.slices_Grow_room Try.growI none 0 0 0 w (by omega) (by omega) (by omega) (by omega)
    change Calls Try.prog 143 _ _ _ at h
    exact h.mono fun e w' ⟨he, hw⟩ => ⟨_, he, by subst hw; exact World.ownsRow_nil _ _ _ _, by subst hw; exact Below.refl _ _⟩
  · obtain ⟨i0, hi, hzz⟩ := Option.map_eq_some_iff.1 info_n64
    simp only [Prod.mk.injEq] at hzz
    obtain ⟨hz0, hz1, hz2⟩ := hzz
    have h := Any8.slices_Grow_grow Try.growI i0 (.int .i64 0) hi hz0 (by rw [hz1]; omega) none 0 0 n [] w (by omega) (by omega) (by rw [hz2]; omega) (by omega) (by simp) (fun _ => rfl) (fun a h => by cases h)
    change Calls Try.prog 143 _ _ _ at h
    refine h.mono fun e w' ⟨he, hw⟩ => ⟨_, he, ?_, ?_⟩
    · subst hw
      have hge := grownCap_ge w (0 + n) 0 2
      have hle := grownCap_le_maxLen w (0 + n) 0 2 (by unfold maxLen; omega)
      refine ⟨by simp, .inr ⟨w.heap.size, _, _, rfl, Nat.le_refl _, heap_alloc_new w.drew _, Nat.zero_le _, hle, ?_, by simp⟩⟩
      have e0 : ∀ k, (Builtin.zeroCells (Value.int .i64 0).cells k).size = k := fun k => by simp [Builtin.zeroCells, Value.cells]
      simp only [Array.size_append, e0]
      show 0 + (0 + n - 0) + _ = _ * 1
      rw [Nat.mul_one]
      change 0 + (0 + n - 0) + (grownCap w (0 + n) 0 2 - (0 + n)) = grownCap w (0 + n) 0 2
      omega
    · subst hw
      exact (⟨rfl, rfl, rfl, Nat.le_refl _, fun _ _ => rfl⟩ : Below w.heap.size w w.drew).alloc (Nat.le_refl _) _

set_option maxRecDepth 100000 in
set_option maxHeartbeats 4000000 in
theorem concat_any (g cap : Nat) (ls : List (List Int)) (bs : Nat → Nat) (w : World) (hl16 : ls.length ≤ 16) (hln : ∀ j, (h : j < ls.length) → ∃ a c : Int, ls[j] = [a, c]) (hr : LRow w g ls bs) :
    Calls Try.prog 122 #[.slice (some ⟨g, 0, none⟩) ls.length cap] w (OwnPost ls.flatten w) := by
  have HL := Lib.hid hr
  have LN := Lib.hid hln
  have UN := Lib.hid (upL_next ls)
  have UL := Lib.hid (upL_len ls hln)
  have U0 : Hid (upL ls 0 = []) := Lib.hid rfl
  have UE : Hid (upL ls ls.length = ls.flatten) := Lib.hid (by unfold upL; rw [List.take_length])
  have GR := Lib.hid (fun w => grow_any (2 * ls.length) (by omega) w)
  generalize ls.flatten = r at *
  generalize upL ls = S at *
  clear hr hln
  obtain ⟨i0, hi, hzz⟩ := Option.map_eq_some_iff.1 info_n64
  simp only [Prod.mk.injEq] at hzz
  obtain ⟨hz0, hz1, hz2⟩ := hzz
  have HI := Lib.hid hi
  have HZ0 := Lib.hid hz0
  have HZ1 := Lib.hid hz1
  have HZ2 := Lib.hid hz2
  clear hi hz0 hz1 hz2
  go_enter Try.func122, Try.ntmps122
  go_wp2_with fail
  go_loopg [3, 11] (ls.length + 1) (fun kx s3 s11 wr => ∃ j : Nat, s3 = .int .i64 ((2 * j : Nat) : Int) ∧ s11 = .int .i64 (j : Int) ∧ j ≤ ls.length ∧ kx = ls.length + 1 - j ∧ wr = w)
  case atStart => exact ⟨0, rfl, rfl, Nat.zero_le _, rfl, rfl⟩
  case round =>
    obtain ⟨j, rfl, rfl, hj, rfl, hww⟩ := hrel
    have hww' := hww.symm
    subst hww'
    by_cases hlt : j < ls.length
    · obtain ⟨a, c, hac⟩ := LN.out j hlt
      obtain ⟨c0, hx⟩ := HL.out.at j hlt
      rw [hac] at c0
      simp only [List.length_cons, List.length_nil, Nat.zero_add, Nat.reduceAdd] at c0
      have j0 : (0 : Int) ≤ (j : Int) := by omega
      have j1 : (j : Int) < (ls.length : Int) := by omega
      clear hx hac
      go_wp2_with fail
      go_roundg (ls.length + 1 - (j + 1))
      case measure => omega
      case rel => exact ⟨j + 1, by go_num, by go_num, by omega, by omega, rfl⟩
    · obtain rfl : j = ls.length := by omega
      obtain ⟨m, hm⟩ : ∃ m : Nat, m = 2 * ls.length := ⟨_, rfl⟩
      rw [← hm] at GR ⊢
      clear hm
      go_wp2_with fail
      refine (GR.out _).mono ?_
      rintro e w1 ⟨v1, rfl, hown1, hb1⟩
      have HO1 := Lib.hid hown1
      have HB1 := Lib.hid hb1
      clear hown1 hb1 GR
      go_wp2_with fail
      go_loopg [6, 27] (ls.length + 1) (fun kx s6 s27 wr => ∃ j : Nat, s27 = .int .i64 (j : Int) ∧ j ≤ ls.length ∧ kx = ls.length + 1 - j ∧ Hid (wr.ownsRow w.heap.size 2 1 s6 (S j).length ((S j).map (Value.int .i64))) ∧ Hid (Below w.heap.size w wr))
      case atStart => exact ⟨0, rfl, Nat.zero_le _, rfl, Lib.hid (by rw [U0.out]; exact HO1.out), HB1⟩
      case round =>
        obtain ⟨j, rfl, hj2, rfl, HO, HB⟩ := hrel
        have ul := UL.out j hj2
        by_cases hlt2 : j < ls.length
        · obtain ⟨a, c, hac⟩ := LN.out j hlt2
          obtain ⟨c0, hx⟩ := (HL.out.below HB.out).at j hlt2
          have SN := Lib.hid (UN.out j hlt2 a c hac)
          rw [hac] at c0 hx
          have x0 := hx.at 0 (by simp)
          have x1 := hx.at 1 (by simp)
          simp only [List.length_cons, List.length_nil, List.getElem_cons_zero, List.getElem_cons_succ, Nat.zero_add, Nat.reduceAdd] at c0 x0 x1
          have NW : Hid (∀ (k : Nat) u, [Value.int .i64 a, Value.int .i64 c][k]? = some u → wr.cell? ((⟨bs j, 0, none⟩ : Addr).add k) = some u) := Lib.hid (by
            intro k u hk
            match k, hk with
            | 0, hk => simp at hk; subst hk; simpa [Addr.add] using x0
            | 1, hk => simp at hk; subst hk; simpa [Addr.add] using x1)
          have PW : Hid (∀ u ∈ [Value.int .i64 a, Value.int .i64 c], u.oneCell' = true) := Lib.hid (by
            intro u hu
            simp at hu
            rcases hu with rfl | rfl <;> rfl)
          have j0 : (0 : Int) ≤ (j : Int) := by omega
          have j1 : (j : Int) < (ls.length : Int) := by omega
          clear hx hac x0 x1
          generalize bs j = b at *
          generalize S j = L at *
          have hown := HO.out
          have hi := HI.out
          have hz0 := HZ0.out
          have hz1 := HZ1.out
          have hz2 := HZ2.out
          have h63 : L.length + 2 ≤ maxLen := by unfold maxLen; omega
          have hby : (L.length + 2) * 8 ≤ 140737488355328 := by omega
          have hbs := HB.out.size
          clear HO
          go_wp2_with (at_builtin; refine wpList_append_own _ rfl _ _ 59 rfl w.heap.size 2 i0 (.int .i64 0) 1 8 Try.underlying59 hi hz0 hz1 hz2 rfl (by decide) _ _ _ rfl hown ⟨b, 0, none⟩ 2 2 [.int .i64 a, .int .i64 c] rfl rfl NW.out PW.out h63 hby hbs ?_)
          intro v' w5 hown' hgrow _
          have hb2 := HB.out.grown hgrow hbs (fun k hk => (hown.lt k hk).1)
          have ho : w5.ownsRow w.heap.size 2 1 v' (L ++ [a, c]).length ((L ++ [a, c]).map (Value.int .i64)) := by simpa [ul] using hown'
          have HO2 := Lib.hid ho
          have HB5 := Lib.hid hb2
          clear hown hown' hgrow ho hb2 hi hz0 hz1 hz2 c0
          go_wp2_with fail
          go_roundg (ls.length + 1 - (j + 1))
          case measure => omega
          case rel => exact ⟨j + 1, by go_num, by omega, by omega, by rw [SN.out]; exact HO2, HB5⟩
        · obtain rfl : j = ls.length := by omega
          have ho := HO.out
          rw [UE.out] at ho
          go_wp2_with fail
          go_ret
          exact ⟨_, rfl, ho, HB.out⟩

/-- Below a block that the call made nothing turns. -/
theorem grown_belowE {B g : Nat} {w0 w w' : World} (hb : Below B w0 w) (hs : B ≤ w.heap.size) (hg : B ≤ g) (h : w.grownBy w' (some g)) : Below B w0 w' := hb.grown h hs (fun k hk => by injection hk with e; omega)

set_option maxRecDepth 100000 in
set_option maxHeartbeats 4000000 in
theorem sortI_any {B : Nat} {v : Value} (zs : List Int) (hz : zs.length ≤ 1000) (w : World) (h : w.ownsRow B 2 1 v zs.length (zs.map (Value.int .i64))) (hB : B ≤ w.heap.size) :
    Calls Try.prog 123 #[v] w fun e w' => e = .returned (.tuple #[]) ∧ w'.ownsRow B 2 1 v zs.length ((zs.mergeSort fun x y => decide (x ≤ y)).map (Value.int .i64)) ∧ Below B w w' := by
  rcases h.2 with ⟨rfl, h0⟩ | ⟨g, cap, cur, rfl, hg, hh, hc1, hc2, hc3, ht⟩
  · have hn := AnyM.slices_Sort_int_none Try.sortI none 0 w
    change Calls Try.prog 123 _ _ _ at hn
    refine hn.mono fun e w' ⟨he, hw⟩ => ⟨he, ?_, by subst hw; exact Below.refl _ _⟩
    subst hw
    obtain rfl : zs = [] := List.length_eq_zero_iff.1 h0
    rw [show (([] : List Int).mergeSort fun x y => decide (x ≤ y)) = [] by simp]
    exact h
  · rw [Nat.mul_one] at ht
    have hgl : g < w.heap.size := (Array.getElem?_eq_some_iff.1 hh).1
    have hs := AnyM.slices_Sort_int Try.sortI g 0 cap zs w (holds_of_blockI hh ht) hgl (by omega)
    change Calls Try.prog 123 _ _ _ at hs
    refine hs.mono fun e w' ⟨he, n, os, hw⟩ => ⟨he, ?_, ?_⟩
    · subst hw
      exact ownsRow_sortedI (by rw [List.length_mergeSort]) hg hh hc1 hc2 hc3
    · subst hw
      exact grown_belowE (Below.refl _ _) hB hg (grownBy_sortedI _)

set_option maxRecDepth 100000 in
set_option maxHeartbeats 4000000 in
theorem compactI_any {B : Nat} {v : Value} (zs : List Int) (hz : zs.length ≤ 1000) (w : World) (h : w.ownsRow B 2 1 v zs.length (zs.map (Value.int .i64))) (hB : B ≤ w.heap.size) :
    Calls Try.prog 124 #[v] w fun e w' => ∃ v', e = .returned v' ∧ w'.ownsRow B 2 1 v' (compact zs).length ((compact zs).map (Value.int .i64)) ∧ Below B w w' := by
  rcases h.2 with ⟨rfl, h0⟩ | ⟨g, cap, cur, rfl, hg, hh, hc1, hc2, hc3, ht⟩
  · obtain rfl : zs = [] := List.length_eq_zero_iff.1 h0
    have hc : compact ([] : List Int) = [] := rfl
    rw [hc]
    clear hB h
    go_enter Try.func124, Try.ntmps124
    go_wp2_with fail
    go_ret
    exact ⟨_, rfl, World.ownsRow_nil _ _ _ _, Below.refl _ _⟩
  · rw [Nat.mul_one] at ht
    have hgl : g < w.heap.size := (Array.getElem?_eq_some_iff.1 hh).1
    have hs := AnyE.slices_Compact Try.compactI (Value.int .i64) (fun _ => rfl) (EqlAt.intD _ _ _) (NeqAt.intD _ _ _) 0 zero_i64 g 0 cap zs.toArray w (holds_of_blockI hh ht) (by simp; omega) (by simpa using hc1)
    have ec : compactUpTo zs.toArray zs.toArray.size = compact zs := by
      show _ = compactUpTo zs.toArray zs.length
      simp
    rw [ec] at hs
    have hle : (compact zs).length ≤ zs.length := by
      show (((List.range zs.length).filter (keeps zs.toArray)).map (zs.toArray[·]!)).length ≤ _
      rw [List.length_map]
      exact Nat.le_trans (List.length_filter_le _ _) (by simp)
    have hsz : zs.toArray.size = zs.length := by simp
    rw [hsz] at hs
    change Calls Try.prog 124 _ _ _ at hs
    refine hs.mono fun e w' ⟨he, q, hw⟩ => ⟨_, he, ?_, ?_⟩
    · have hfull : w'.ownsRow B 2 1 (.slice (some ⟨g, 0, none⟩) zs.length cap) zs.length ((compact zs ++ List.replicate (zs.length - (compact zs).length) 0).map (Value.int .i64)) := by
        subst hw
        have := ownsRow_sortedI (os := #[]) (n := q) (ts := compact zs ++ List.replicate (zs.length - (compact zs).length) 0) (ss := zs) (by simp; omega) hg hh hc1 hc2 hc3
        rw [Go.Sort.grow_empty] at this
        exact this
      rcases hfull.2 with ⟨hv, _⟩ | ⟨g', cap', cur', hv, hg', hh', hc1', hc2', hc3', ht'⟩
      · cases hv
      · injection hv with e1 e2 e3
        injection e1 with e1
        injection e1 with e1
        subst e1 e3
        refine ⟨by simp, .inr ⟨g, cap, cur', rfl, hg', hh', by omega, hc2', hc3', ?_⟩⟩
        rw [Nat.mul_one] at ht' ⊢
        have h2 := congrArg (List.take (compact zs).length) ht'
        rw [List.take_take, Nat.min_eq_left hle] at h2
        rw [h2, List.map_append, List.take_left' (by simp)]
    · subst hw
      have := grown_belowE (Below.refl B w) hB hg (grownBy_sortedI (w := w) (g := g) (n := q) (os := #[]) (compact zs ++ List.replicate (zs.length - (compact zs).length) 0).toArray)
      rw [Go.Sort.grow_empty] at this
      exact this

set_option maxRecDepth 100000 in
set_option maxHeartbeats 4000000 in
theorem ends_any (s : ByteArray) (g cap : Nat) (ls : List (List Int)) (bs : Nat → Nat) (w : World) (hl16 : ls.length ≤ 16) (hln : ∀ j, (h : j < ls.length) → ∃ a c : Int, ls[j] = [a, c]) (hr : LRow w g ls bs) :
    Calls Try.prog 83 #[.agg #[.string s, .slice (some ⟨g, 0, none⟩) ls.length cap]] w (OwnPost (endsL ls) w) := by
  have C := Lib.hid (fun (W : World) (hB : Below w.heap.size w W) => concat_any g cap ls bs W hl16 hln (hr.below hB))
  have hfl : ls.flatten.length ≤ 1000 := by
    have h := upL_len ls hln ls.length (Nat.le_refl _)
    unfold upL at h
    rw [List.take_length] at h
    omega
  have EQ : Hid (compact (ls.flatten.mergeSort fun x y => decide (x ≤ y)) = endsL ls) := Lib.hid (ends_eq ls.flatten)
  have SL : (ls.flatten.mergeSort fun x y => decide (x ≤ y)).length = ls.flatten.length := List.length_mergeSort _
  have S1 := Lib.hid (fun B v w h hB => sortI_any (B := B) (v := v) ls.flatten hfl w h hB)
  have S2 := Lib.hid (fun B v w h hB => compactI_any (B := B) (v := v) (ls.flatten.mergeSort fun x y => decide (x ≤ y)) (by rw [SL]; exact hfl) w h hB)
  rw [SL] at S2
  rw [EQ.out] at S2
  clear hr hln EQ SL
  generalize endsL ls = r at *
  generalize ls.flatten.mergeSort (fun x y => decide (x ≤ y)) = q at *
  generalize ls.flatten = f at *
  go_enter Try.func83, Try.ntmps83
  go_wp2_with fail
  refine (C.out _ (by repeat (first | exact Below.refl _ _ | refine Below.setCell ?_ (by first | (simp; done) | omega | (simp; omega)) _ | refine Below.alloc ?_ (by first | (simp; done) | omega | (simp; omega)) _ | refine bel_drew ?_))).mono ?_
  rintro e w1 ⟨v1, rfl, hown1, hb1⟩
  have HB1 : Hid (Below w.heap.size w w1) := Lib.hid (by
    refine Below.trans ?_ (hb1.mono ?_)
    · repeat (first | exact Below.refl _ _ | refine Below.setCell ?_ (by first | (simp; done) | omega | (simp; omega)) _ | refine Below.alloc ?_ (by first | (simp; done) | omega | (simp; omega)) _ | refine bel_drew ?_)
    · simp)
  have HO1 : Hid (w1.ownsRow w.heap.size 2 1 v1 f.length (f.map (Value.int .i64))) := Lib.hid (Go.Joins.ownsRow_le hown1 (by simp))
  clear hb1 hown1 C
  go_wp2_with fail
  refine (S1.out _ _ _ HO1.out HB1.out.size).mono ?_
  rintro e w2 ⟨rfl, hown2, hb2⟩
  have HB2 := Lib.hid (HB1.out.trans hb2)
  have HO2 := Lib.hid hown2
  clear hb2 hown2 S1 HO1
  go_wp2_with fail
  refine (S2.out _ _ _ HO2.out HB2.out.size).mono ?_
  rintro e w3 ⟨v3, rfl, hown3, hb3⟩
  have HB3 := Lib.hid (HB2.out.trans hb3)
  have HO3 := Lib.hid hown3
  clear hb3 hown3 S2
  go_wp2_with fail
  go_ret
  exact ⟨_, rfl, HO3.out, HB3.out⟩
end Go.Proofs.Ytfjhlapcopjfiaa
