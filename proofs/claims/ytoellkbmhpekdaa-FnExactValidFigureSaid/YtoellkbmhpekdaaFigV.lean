/-
  Valid figures: the contracts of ValidFigure (packages impl and spec), l08Ok, l08Lines (package spec).
-/
import Derived.Test.YtoellkbmhpekdaaFigI
import Derived.Test.YtoellkbmhpekdaaStarI
namespace Go.Proofs.Ytoellkbmhpekdaa
open Go.RowKit
set_option linter.unusedVariables false

def figV (zs : List StarV) (s : ByteArray) (ls : List (List Int)) : Bool := okL zs && figB (zs.length : Int) s ls
set_option maxRecDepth 100000 in
set_option maxHeartbeats 1000000 in
theorem validFigure_any (s : ByteArray) (hs : s.size ≤ maxLen) (g cap : Nat) (ls : List (List Int)) (bs : Nat → Nat) (g' cap' : Nat) (zs : List StarV) (w : World) (hb : ls.length ≤ 1048577) (hls : ∀ j, (h : j < ls.length) → ls[j].length ≤ 1048577) (hr : LRow w g ls bs)
    (hb' : zs.length ≤ 1048577) (h1 : Row w g' zs) (hok : ∀ j, (h : j < zs.length) → zs[j].ok) :
    Calls Try.prog 19 #[.agg #[.string s, .slice (some ⟨g, 0, none⟩) ls.length cap], .slice (some ⟨g', 0, none⟩) zs.length cap'] w fun e w' => e = .returned (.bool (figV zs s ls)) ∧ Below w.heap.size w w' := by
  have V := Lib.hid (fun (W : World) (hB : Below w.heap.size w W) => validStars_any g' cap' zs W hb' (h1.below hB) hok)
  have F := Lib.hid (fun (W : World) (hB : Below w.heap.size w W) => isValidFor_any s hs (zs.length : Int) (by omega) (by omega) g cap ls bs W hb hls (hr.below hB))
  unfold figV
  clear hr hls h1 hok
  generalize okL zs = p1 at *
  generalize figB (zs.length : Int) s ls = p2 at *
  cases p1 with
  | false =>
    rw [Bool.false_and]
    go_enter Try.func19, Try.ntmps19
    go_wp2_with fail
    refine (V.out _ (by repeat (first | exact Below.refl _ _ | refine Below.setCell ?_ (by first | (simp; done) | omega | (simp; omega)) _ | refine Below.alloc ?_ (by first | (simp; done) | omega | (simp; omega)) _ | refine bel_drew ?_)
      )).mono ?_
    rintro e w1 ⟨rfl, hb1⟩
    have HB1 : Hid (Below w.heap.size w w1) := Lib.hid (by
      refine Below.trans ?_ (hb1.mono ?_)
      · repeat (first | exact Below.refl _ _ | refine Below.setCell ?_ (by first | (simp; done) | omega | (simp; omega)) _ | refine Below.alloc ?_ (by first | (simp; done) | omega | (simp; omega)) _ | refine bel_drew ?_)
      · simp)
    clear hb1
    go_wp2_with fail
    go_ret
    exact ⟨rfl, HB1.out⟩
  | true =>
    rw [Bool.true_and]
    go_enter Try.func19, Try.ntmps19
    go_wp2_with fail
    refine (V.out _ (by repeat (first | exact Below.refl _ _ | refine Below.setCell ?_ (by first | (simp; done) | omega | (simp; omega)) _ | refine Below.alloc ?_ (by first | (simp; done) | omega | (simp; omega)) _ | refine bel_drew ?_)
      )).mono ?_
    rintro e w1 ⟨rfl, hb1⟩
    have HB1 : Hid (Below w.heap.size w w1) := Lib.hid (by
      refine Below.trans ?_ (hb1.mono ?_)
      · repeat (first | exact Below.refl _ _ | refine Below.setCell ?_ (by first | (simp; done) | omega | (simp; omega)) _ | refine Below.alloc ?_ (by first | (simp; done) | omega | (simp; omega)) _ | refine bel_drew ?_)
      · simp)
    have q0 : w1.cell? ⟨w.heap.size, 0, none⟩ = some (.string s) := (hb1.cell (p := ⟨w.heap.size, 0, none⟩) (by simp)).trans (by simp)
    have q1 : w1.cell? ⟨w.heap.size, 1, none⟩ = some (.slice (some ⟨g, 0, none⟩) ls.length cap) := (hb1.cell (p := ⟨w.heap.size, 1, none⟩) (by simp)).trans (by simp)
    clear hb1
    go_wp2_with fail
    refine (F.out _ HB1.out).mono ?_
    rintro e w2 ⟨rfl, hb2⟩
    have HB2 := Lib.hid (HB1.out.trans (hb2.mono HB1.out.size))
    clear hb2
    go_wp2_with fail
    go_ret
    exact ⟨rfl, HB2.out⟩

set_option maxRecDepth 100000 in
set_option maxHeartbeats 4000000 in
theorem l08Lines_any (n : Int) (h0 : 0 ≤ n) (h1 : n ≤ 1048577) (g cap : Nat) (ls : List (List Int)) (bs : Nat → Nat) (w : World) (hb : ls.length ≤ 1048577) (hls : ∀ j, (h : j < ls.length) → ls[j].length ≤ 1048577) (hfit : ∀ j, (h : j < ls.length) → ∀ x ∈ ls[j], fits x) (hr : LRow w g ls bs) :
    Calls Try.prog 62 #[.slice (some ⟨g, 0, none⟩) ls.length cap, .int .i64 n] w fun e w' => e = .returned (.bool (linesB n ls)) ∧ Below w.heap.size w w' := by
  have H1 := Lib.hid hr
  have HLS := Lib.hid hls
  have KN := Lib.hid (okF_next n ls)
  have KS := Lib.hid (okF_stop n ls)
  have KE : Hid (linesB n ls = (okF n ls ls.length && decide (ls.length ≤ 16))) := Lib.hid rfl
  generalize linesB n ls = r at *
  clear hr hls
  have HF := Lib.hid hfit
  clear hfit
  go_enter Try.func62, Try.ntmps62
  go_wp2_with fail
  go_loopg [5] (ls.length + 1) (fun kx s5 wr => ∃ j : Nat, s5 = .int .i64 (j : Int) ∧ j ≤ ls.length ∧ kx = ls.length + 1 - j ∧ Hid (okF n ls j = true) ∧ Hid (Below w.heap.size w wr))
  case atStart => exact ⟨0, rfl, Nat.zero_le _, rfl, Lib.hid rfl, Lib.hid (Below.refl _ _)⟩
  case round =>
    obtain ⟨j, rfl, hj, rfl, HO, HB⟩ := hrel
    by_cases hlt : j < ls.length
    · have hR := H1.out.below HB.out
      obtain ⟨c0, hx⟩ := hR.at j hlt
      have HS := Lib.hid (KS.out j hlt)
      have HN := Lib.hid (KN.out j)
      have GD := getL_at ls j hlt
      have j0 : (0 : Int) ≤ (j : Int) := by omega
      have j1 : (j : Int) < (ls.length : Int) := by omega
      by_cases h2 : ls[j].length = 2
      · obtain ⟨a, c, hac⟩ : ∃ a c, ls[j] = [a, c] := by
          match ls[j], h2 with
          | [a, c], _ => exact ⟨a, c, rfl⟩
        have hfa : fits a := HF.out j hlt a (by rw [hac]; simp)
        have hg : lineB n ls[j] = (inR 0 (n - 1) [a] && inR (a + 1) (n - 1) [c]) := by
          rw [hac]
          have e : lineB n [a, c] = (inR 0 (n - 1) [a, c] && decide (a < c)) := rfl
          rw [e, inR_2, Bool.eq_iff_iff]
          simp only [Bool.and_eq_true, inR_1, decide_eq_true_eq]
          omega
        rw [hac] at c0 hx
        have x0 := hx.at 0 (by simp)
        have x1 := hx.at 1 (by simp)
        simp only [List.length_cons, List.length_nil, List.getElem_cons_zero, List.getElem_cons_succ, Nat.zero_add, Nat.reduceAdd] at c0 x0 x1
        have J0 := Lib.hid (fun w => l00In_any a 0 (n - 1) w)
        have J1 := Lib.hid (fun w => l00In_any c (a + 1) (n - 1) w)
        cases hi : inR 0 (n - 1) [a] with
        | false =>
          rw [hi, Bool.false_and] at hg
          rw [hi] at J0
          have hr : r = false := HS.out (by unfold stepL; rw [GD, hg]; rfl)
          subst hr
          clear hg GD hR HS HN KS KN hx hac h2 hi J1 hfa
          go_wp2_with fail
          go_quiet ((go_at_call 41; with_reducible exact quiet_ddF (J0.out _)))
          rename Nat => q1
          go_wp2_with fail
          go_ret
          exact ⟨rfl, bel_dF HB.out _⟩
        | true =>
          rw [hi, Bool.true_and] at hg
          rw [hi] at J0
          rw [inR_1] at hi
          have wa : IntKind.i64.wrap (a + 1) = a + 1 := IntWalk.i64_in _ (by omega)
          cases hk : inR (a + 1) (n - 1) [c] with
          | false =>
            rw [hk] at hg J1
            have hr : r = false := HS.out (by unfold stepL; rw [GD, hg]; rfl)
            subst hr
            clear hg GD hR HS HN KS KN hx hac h2 hk hfa
            go_wp2_with fail
            go_quiet ((first | (go_at_call 41; with_reducible exact quiet_ddF (J0.out _)) | (go_at_call 41; with_reducible exact quiet_ddF (J1.out _))))
            rename Nat => q1
            go_wp2_with fail
            go_ret
            exact ⟨rfl, bel_dF HB.out _⟩
          | true =>
            rw [hk] at hg J1
            by_cases hz : j = 0
            · subst hz
              have hst : okF n ls (0 + 1) = true := by rw [HN.out, stepL_zero, GD, hg]; rfl
              have HT := Lib.hid hst
              clear hg hst GD hR HS HN KS KN hx hac h2 hk hfa
              go_wp2_with fail
              go_quiet ((first | (go_at_call 41; with_reducible exact quiet_ddF (J0.out _)) | (go_at_call 41; with_reducible exact quiet_ddF (J1.out _))))
              rename Nat => q1
              go_wp2_with fail
              go_quiet (fail)
              rename Nat => q2
              go_wp2_with fail
              go_roundg (ls.length + 1 - (0 + 1))
              case measure => omega
              case rel => exact ⟨0 + 1, by go_num, by omega, by omega, HT, Lib.hid (bel_dF HB.out _)⟩
            · obtain ⟨k, hkk⟩ : ∃ k, j = k + 1 := ⟨j - 1, by omega⟩
              have hkl : k < ls.length := by omega
              obtain ⟨d0, hy⟩ := hR.at k hkl
              obtain ⟨a', c', hac'⟩ := lineB_two (by have h := okF_line n ls j k HO.out (by omega); rw [getL_at ls k hkl] at h; exact h)
              have hst : stepL n ls j = (decide (a' < a) || (decide (a' = a) && decide (c' < c))) := by rw [stepL_pos n ls j k hkk, GD, getL_at ls k hkl, hg, Bool.true_and, hac, hac']; rfl
              have ek : (j : Int) - 1 = (k : Int) := by omega
              have k0 : (0 : Int) ≤ (k : Int) := by omega
              have k1 : (k : Int) < (ls.length : Int) := by omega
              have kg : 0 < j := by omega
              have kd : decide (0 < j) = true := by simpa using kg
              have kg' : (0 : Int) < (j : Int) := by omega
              have wk : IntKind.i64.wrap (k : Int) = (k : Int) := IntWalk.i64_in _ (by omega)
              rw [hst] at HS HN
              rw [hac'] at d0 hy
              have y0 := hy.at 0 (by simp)
              have y1 := hy.at 1 (by simp)
              simp only [List.length_cons, List.length_nil, List.getElem_cons_zero, List.getElem_cons_succ, Nat.zero_add, Nat.reduceAdd] at d0 y0 y1
              clear hz hR GD hg hst hkk hx hy hac hac' hk h2 hfa
              by_cases g1 : a < a'
              · have e1 : decide (a < a') = true := by simpa using g1
                have hr : r = false := HS.out (by rw [show decide (a' < a) = false by simp; omega, show decide (a' = a) = false by simp; omega]; rfl)
                subst hr
                clear HS HN KS KN
                go_wp2_with fail
                go_quiet ((first | (go_at_call 41; with_reducible exact quiet_ddF (J0.out _)) | (go_at_call 41; with_reducible exact quiet_ddF (J1.out _))))
                rename Nat => q1
                go_wp2_with fail
                go_quiet (fail)
                rename Nat => q2
                go_wp2_with fail
                go_ret
                exact ⟨rfl, bel_dF (bel_dF HB.out _) _⟩
              · have e1 : decide (a < a') = false := by simpa using g1
                by_cases g2 : a' = a
                · have e2 : decide (a' = a) = true := by simpa using g2
                  have e2' : (a' == a) = true := by simpa using g2
                  by_cases g3 : c ≤ c'
                  · have e3 : decide (c ≤ c') = true := by simpa using g3
                    have hr : r = false := HS.out (by rw [show decide (a' < a) = false by simp; omega, show decide (c' < c) = false by simp; omega]; simp)
                    subst hr
                    clear HS HN KS KN
                    go_wp2_with fail
                    go_quiet ((first | (go_at_call 41; with_reducible exact quiet_ddF (J0.out _)) | (go_at_call 41; with_reducible exact quiet_ddF (J1.out _))))
                    rename Nat => q1
                    go_wp2_with fail
                    go_quiet (fail)
                    rename Nat => q2
                    go_wp2_with fail
                    go_ret
                    exact ⟨rfl, bel_dF (bel_dF HB.out _) _⟩
                  · have e3 : decide (c ≤ c') = false := by simpa using g3
                    have HT : Hid (okF n ls (j + 1) = true) := Lib.hid (by rw [HN.out, HO.out, show decide (a' = a) = true by simpa using g2, show decide (c' < c) = true by simp; omega]; simp)
                    clear HS HN KS KN
                    go_wp2_with fail
                    go_quiet ((first | (go_at_call 41; with_reducible exact quiet_ddF (J0.out _)) | (go_at_call 41; with_reducible exact quiet_ddF (J1.out _))))
                    rename Nat => q1
                    go_wp2_with fail
                    go_quiet (fail)
                    rename Nat => q2
                    go_wp2_with fail
                    go_roundg (ls.length + 1 - (j + 1))
                    case measure => omega
                    case rel => exact ⟨j + 1, by go_num, by omega, by omega, HT, Lib.hid (bel_dF HB.out _)⟩
                · have e2 : decide (a' = a) = false := by simpa using g2
                  have e2' : (a' == a) = false := by simpa using g2
                  have HT : Hid (okF n ls (j + 1) = true) := Lib.hid (by rw [HN.out, HO.out, show decide (a' < a) = true by simp; omega]; simp)
                  clear HS HN KS KN
                  go_wp2_with fail
                  go_quiet ((first | (go_at_call 41; with_reducible exact quiet_ddF (J0.out _)) | (go_at_call 41; with_reducible exact quiet_ddF (J1.out _))))
                  rename Nat => q1
                  go_wp2_with fail
                  go_quiet (fail)
                  rename Nat => q2
                  go_wp2_with fail
                  go_roundg (ls.length + 1 - (j + 1))
                  case measure => omega
                  case rel => exact ⟨j + 1, by go_num, by omega, by omega, HT, Lib.hid (bel_dF HB.out _)⟩
      · have hg : lineB n ls[j] = false := by
          unfold lineB
          rw [show (ls[j].length == 2) = false by simpa using h2, Bool.false_and]
        have hi : ¬ (ls[j].length : Int) = 2 := by omega
        have d1 : ((ls[j].length : Int) != 2) = true := by simpa using hi
        have d2 : ((ls[j].length : Int) == 2) = false := by simpa using hi
        have d3 : decide ((ls[j].length : Int) = 2) = false := by simpa using hi
        have hr : r = false := HS.out (by unfold stepL; rw [GD, hg]; rfl)
        subst hr
        clear hg GD hR HS HN KS KN hx h2
        generalize ls[j].length = m at *
        go_wp2_with fail
        go_quiet (fail)
        rename Nat => q1
        go_wp2_with fail
        go_ret
        exact ⟨rfl, bel_dF HB.out _⟩
    · obtain rfl : j = ls.length := by omega
      go_wp2_with fail
      go_ret
      refine ⟨ret_bool ?_, HB.out⟩
      rw [KE.out, HO.out, Bool.true_and]
      simp only [decide_eq_decide]
      omega

set_option maxRecDepth 100000 in
set_option maxHeartbeats 1000000 in
theorem l08Ok_any (s : ByteArray) (p g cap : Nat) (ls : List (List Int)) (bs : Nat → Nat) (g' cap' : Nat) (zs : List StarV) (w : World) (hp0 : w.cell? ⟨p, 0, none⟩ = some (.string s)) (hp1 : w.cell? ⟨p, 1, none⟩ = some (.slice (some ⟨g, 0, none⟩) ls.length cap)) (hb : ls.length ≤ 1048577) (hls : ∀ j, (h : j < ls.length) → ls[j].length ≤ 1048577) (hfit : ∀ j, (h : j < ls.length) → ∀ x ∈ ls[j], fits x) (hr : LRow w g ls bs)
    (hb' : zs.length ≤ 1048577) (h1 : Row w g' zs) :
    Calls Try.prog 36 #[.pointer (some ⟨p, 0, none⟩), .slice (some ⟨g', 0, none⟩) zs.length cap'] w fun e w' => e = .returned (.bool (figV zs s ls)) ∧ Below w.heap.size w w' := by
  have V := Lib.hid (l05Ok_any g' cap' zs w hb' h1)
  have NM := Lib.hid (fun w => l01Name_any s w)
  have F := Lib.hid (fun (W : World) (hB : Below w.heap.size w W) => l08Lines_any (zs.length : Int) (by omega) (by omega) g cap ls bs W hb hls hfit (hr.below hB))
  have hpl := World.block_lt_of_cell? w ⟨p, 0, none⟩ hp0
  have HP0 := Lib.hid hp0
  have HP1 := Lib.hid hp1
  unfold figV figB
  clear hr hls h1 hfit hp0 hp1
  generalize okL zs = p1 at *
  generalize nameB s.data.toList = p2 at *
  generalize linesB (zs.length : Int) ls = p3 at *
  cases p1 with
  | false =>
    rw [Bool.false_and]
    go_enter Try.func36, Try.ntmps36
    go_wp2_with fail
    refine (V.out).mono ?_
    rintro e w1 ⟨rfl, hb1⟩
    have HB1 := Lib.hid hb1
    clear hb1
    go_wp2_with fail
    go_ret
    exact ⟨rfl, HB1.out⟩
  | true =>
    rw [Bool.true_and]
    cases p2 with
    | false =>
      rw [Bool.false_and]
      go_enter Try.func36, Try.ntmps36
      go_wp2_with fail
      refine (V.out).mono ?_
      rintro e w1 ⟨rfl, hb1⟩
      have q0 := (hb1.cell (p := ⟨p, 0, none⟩) hpl).trans HP0.out
      have HB1 := Lib.hid hb1
      clear hb1
      go_wp2_with fail
      refine (NM.out _).mono ?_
      rintro e w2 ⟨rfl, rfl⟩
      go_wp2_with fail
      go_ret
      exact ⟨rfl, HB1.out⟩
    | true =>
      rw [Bool.true_and]
      go_enter Try.func36, Try.ntmps36
      go_wp2_with fail
      refine (V.out).mono ?_
      rintro e w1 ⟨rfl, hb1⟩
      have q0 := (hb1.cell (p := ⟨p, 0, none⟩) hpl).trans HP0.out
      have q1 := (hb1.cell (p := ⟨p, 1, none⟩) hpl).trans HP1.out
      have HB1 := Lib.hid hb1
      clear hb1
      go_wp2_with fail
      refine (NM.out _).mono ?_
      rintro e w2 ⟨rfl, rfl⟩
      go_wp2_with fail
      refine (F.out _ HB1.out).mono ?_
      rintro e w2 ⟨rfl, hb2⟩
      have HB2 := Lib.hid (HB1.out.trans (hb2.mono HB1.out.size))
      clear hb2
      go_wp2_with fail
      go_ret
      exact ⟨rfl, HB2.out⟩
set_option maxRecDepth 100000 in
set_option maxHeartbeats 1000000 in
theorem specValidFigure_any (s : ByteArray) (g cap : Nat) (ls : List (List Int)) (bs : Nat → Nat) (g' cap' : Nat) (zs : List StarV) (w : World) (hb : ls.length ≤ 1048577) (hls : ∀ j, (h : j < ls.length) → ls[j].length ≤ 1048577) (hfit : ∀ j, (h : j < ls.length) → ∀ x ∈ ls[j], fits x) (hr : LRow w g ls bs)
    (hb' : zs.length ≤ 1048577) (h1 : Row w g' zs) :
    Calls Try.prog 17 #[.agg #[.string s, .slice (some ⟨g, 0, none⟩) ls.length cap], .slice (some ⟨g', 0, none⟩) zs.length cap'] w fun e w' => e = .returned (.bool (figV zs s ls)) ∧ Below w.heap.size w w' := by
  have F := Lib.hid (fun (W : World) (hB : Below w.heap.size w W) p hp0 hp1 => l08Ok_any s p g cap ls bs g' cap' zs W hp0 hp1 hb hls hfit (hr.below hB) hb' (h1.below hB))
  clear hr hls h1 hfit
  generalize figV zs s ls = p1 at *
  go_enter Try.func17, Try.ntmps17
  go_wp2_with fail
  refine (F.out _ (by repeat (first | exact Below.refl _ _ | refine Below.setCell ?_ (by first | (simp; done) | omega | (simp; omega)) _ | refine Below.alloc ?_ (by first | (simp; done) | omega | (simp; omega)) _ | refine bel_drew ?_)
    ) w.heap.size (by simp) (by simp)).mono ?_
  rintro e w1 ⟨rfl, hb1⟩
  have HB1 : Hid (Below w.heap.size w w1) := Lib.hid (by
    refine Below.trans ?_ (hb1.mono ?_)
    · repeat (first | exact Below.refl _ _ | refine Below.setCell ?_ (by first | (simp; done) | omega | (simp; omega)) _ | refine Below.alloc ?_ (by first | (simp; done) | omega | (simp; omega)) _ | refine bel_drew ?_)
    · simp)
  clear hb1
  go_wp2_with fail
  go_ret
  exact ⟨rfl, HB1.out⟩
end Go.Proofs.Ytoellkbmhpekdaa
