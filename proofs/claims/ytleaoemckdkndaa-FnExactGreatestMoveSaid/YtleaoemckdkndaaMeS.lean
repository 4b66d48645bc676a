/-
  SameMesh (both packages).
-/
import Derived.Test.YtleaoemckdkndaaMe0
namespace Go.Proofs.Ytleaoemckdkndaa.Me
open Go.RowKit
open Sp (V Own Row eqTo sameL eqV)
set_option linter.unusedVariables false

def sameM (c r c' r' : Int) (xs ys : List V) : Bool := decide (c = c') && (decide (r = r') && sameL xs ys)
theorem sameM_c {c r c' r' : Int} {xs ys : List V} (h : ¬ c = c') : sameM c r c' r' xs ys = false := by simp [sameM, h]
theorem sameM_r {c r r' : Int} {xs ys : List V} (h : ¬ r = r') : sameM c r c r' xs ys = false := by simp [sameM, h]
theorem sameM_l {c r : Int} {xs ys : List V} (h : ¬ xs.length = ys.length) : sameM c r c r xs ys = false := by simp [sameM, sameL, h]
theorem sameM_e {c r : Int} {xs ys : List V} (h : xs.length = ys.length) : sameM c r c r xs ys = eqTo xs ys xs.length := by simp [sameM, sameL, h]
theorem sameM_s {c r : Int} {xs ys : List V} : sameM c r c r xs ys = sameL xs ys := by simp [sameM]

set_option maxHeartbeats 1000000 in
theorem hasSize_any (c r c' r' : Int) (u u' : Value) (w : World) :
    Calls Try.prog 59 #[.agg #[.int .i64 c, .int .i64 r, u], .agg #[.int .i64 c', .int .i64 r', u']] w fun e w' => e = .returned (.bool (decide (c = c') && decide (r = r'))) ∧ Below w.heap.size w w' := by
  by_cases hc : c = c'
  · subst hc
    by_cases hr : r = r'
    · subst hr
      go_enter Try.func59, Try.ntmps59
      go_wp2_with fail
      go_ret
      exact ⟨ret_bool (by simp), ((Below.refl _ _).alloc (Nat.le_refl _) _).alloc (by simp) _⟩
    ·
      go_enter Try.func59, Try.ntmps59
      go_wp2_with fail
      go_ret
      exact ⟨ret_bool (by simp [hr]), ((Below.refl _ _).alloc (Nat.le_refl _) _).alloc (by simp) _⟩
  ·
    go_enter Try.func59, Try.ntmps59
    go_wp2_with fail
    go_ret
    exact ⟨ret_bool (by simp [hc]), ((Below.refl _ _).alloc (Nat.le_refl _) _).alloc (by simp) _⟩

set_option maxRecDepth 100000 in
set_option maxHeartbeats 2000000 in
theorem implSame_any (c r c' r' : Int) (g g' cap cap' : Nat) (xs ys : List V) (w : World) (hb : xs.length ≤ 1048577) (hb2 : ys.length ≤ 1048577) (h1 : Row w g xs) (h2 : Row w g' ys) :
    Calls Try.prog 18 #[.agg #[.int .i64 c, .int .i64 r, .slice (some ⟨g, 0, none⟩) xs.length cap], .agg #[.int .i64 c', .int .i64 r', .slice (some ⟨g', 0, none⟩) ys.length cap']] w fun e w' => e = .returned (.bool (sameM c r c' r' xs ys)) ∧ Below w.heap.size w w' := by
  have EQ := Lib.hid (fun (W : World) (hB : Below w.heap.size w W) => Sp.equal_any g g' cap cap' xs ys W hb hb2 (h1.below hB) (h2.below hB))
  have HS := Lib.hid (fun u u' w => hasSize_any c r c' r' u u' w)
  clear h1 h2
  have HB0 := Lib.hid (((Below.refl w.heap.size w).alloc (Nat.le_refl _) (Obj.cells #[.int .i64 c, .int .i64 r, .slice (some ⟨g, 0, none⟩) xs.length cap] 29)).alloc (by simp) (Obj.cells #[.int .i64 c', .int .i64 r', .slice (some ⟨g', 0, none⟩) ys.length cap'] 29))
  by_cases hs : c = c' ∧ r = r'
  · obtain ⟨rfl, rfl⟩ := hs
    rw [sameM_s]
    have HS2 : Hid (∀ (u u' : Value) (w : World), Calls Try.prog 59 #[.agg #[.int .i64 c, .int .i64 r, u], .agg #[.int .i64 c, .int .i64 r, u']] w fun e w' => e = .returned (.bool true) ∧ Below w.heap.size w w') := Lib.hid (by
      have h := HS.out
      simpa using h)
    clear HS
    go_enter Try.func18, Try.ntmps18
    go_wp2_with fail
    refine (HS2.out _ _ _).mono ?_
    rintro e w1 ⟨rfl, hb1⟩
    have hb2 := HB0.out.trans (hb1.mono (by (try simp); (try omega)))
    have HB2 := Lib.hid hb2
    have m0 := hb1.cell (p := ⟨w.heap.size, 2, none⟩) (by (try simp); (try omega))
    have m1 := hb1.cell (p := ⟨w.heap.size + 1, 2, none⟩) (by (try simp); (try omega))
    simp at m0 m1
    clear hb1 hb2
    go_wp2_with fail
    refine (EQ.out _ HB2.out).mono ?_
    rintro e w2 ⟨rfl, hb3⟩
    have HB3 := Lib.hid (HB2.out.trans (hb3.mono HB2.out.size))
    clear hb3
    go_wp2_with fail
    go_ret
    exact ⟨rfl, HB3.out⟩
  · have hf : sameM c r c' r' xs ys = false := by
      simp only [sameM]
      by_cases hc : c = c'
      · have hr : ¬ r = r' := fun h => hs ⟨hc, h⟩
        simp [hr]
      · simp [hc]
    have hd : (decide (c = c') && decide (r = r')) = false := by
      by_cases hc : c = c'
      · have hr : ¬ r = r' := fun h => hs ⟨hc, h⟩
        simp [hr]
      · simp [hc]
    rw [hd] at HS
    rw [hf]
    clear hs hf hd EQ
    go_enter Try.func18, Try.ntmps18
    go_wp2_with fail
    refine (HS.out _ _ _).mono ?_
    rintro e w1 ⟨rfl, hb1⟩
    have HB2 := Lib.hid (HB0.out.trans (hb1.mono (by (try simp); (try omega))))
    clear hb1
    go_wp2_with fail
    go_ret
    exact ⟨rfl, HB2.out⟩

set_option maxRecDepth 100000 in
set_option maxHeartbeats 2000000 in
theorem l11Same_any (b b' : Nat) (c r c' r' : Int) (g g' cap cap' : Nat) (xs ys : List V) (w : World) (hb : xs.length ≤ 1048577) (hb2 : ys.length ≤ 1048577) (hm : MAt w b c r (.slice (some ⟨g, 0, none⟩) xs.length cap)) (hm2 : MAt w b' c' r' (.slice (some ⟨g', 0, none⟩) ys.length cap')) (h1 : Row w g xs) (h2 : Row w g' ys) :
    Calls Try.prog 57 #[.pointer (some ⟨b, 0, none⟩), .pointer (some ⟨b', 0, none⟩)] w fun e w' => e = .returned (.bool (sameM c r c' r' xs ys)) ∧ Below w.heap.size w w' := by
  have H1 := Lib.hid h1
  have H2 := Lib.hid h2
  have HM := Lib.hid hm
  have HM2 := Lib.hid hm2
  obtain ⟨m0, m1, m2⟩ := hm
  obtain ⟨k0, k1, k2⟩ := hm2
  clear h1 h2
  by_cases hc : c = c'
  case neg =>
    rw [sameM_c hc]
    clear HM HM2 H1 H2 m1 m2 k1 k2
    have hd : decide (c = c') = false := by simpa using hc
    have hd2 : (c != c') = true := by simpa using hc
    have hd3 : (c == c') = false := by simpa using hc
    have hd4 : (c = c') = False := by simpa using hc
    clear hc
    go_enter Try.func57, Try.ntmps57
    go_wp2_with fail
    go_quiet (fail)
    rename Nat => q1
    go_wp2_with fail
    go_ret
    exact ⟨rfl, Sp.bel_drewNS (Below.refl _ _) _⟩
  subst hc
  by_cases hr : r = r'
  case neg =>
    rw [sameM_r hr]
    clear HM HM2 H1 H2 m2 k2
    have hd : decide (r = r') = false := by simpa using hr
    have hd2 : (r != r') = true := by simpa using hr
    have hd3 : (r == r') = false := by simpa using hr
    have hd4 : (r = r') = False := by simpa using hr
    clear hr
    go_enter Try.func57, Try.ntmps57
    go_wp2_with fail
    go_quiet (fail)
    rename Nat => q1
    go_wp2_with fail
    go_ret
    exact ⟨rfl, Sp.bel_drewNS (Below.refl _ _) _⟩
  subst hr
  by_cases hl : xs.length = ys.length
  case neg =>
    rw [sameM_l hl]
    have hne : ¬ ((xs.length : Int) = (ys.length : Int)) := by omega
    have hd : decide ((xs.length : Int) = (ys.length : Int)) = false := by simpa using hne
    have hd2 : ((xs.length : Int) != (ys.length : Int)) = true := by simpa using hne
    have hd3 : ((xs.length : Int) == (ys.length : Int)) = false := by simpa using hne
    have hd4 : ((xs.length : Int) = (ys.length : Int)) = False := by simpa using hne
    clear hl hne
    clear HM HM2 H1 H2
    go_enter Try.func57, Try.ntmps57
    go_wp2_with fail
    go_quiet (fail)
    rename Nat => q1
    go_wp2_with fail
    go_ret
    exact ⟨rfl, Sp.bel_drewNS (Below.refl _ _) _⟩
  rw [sameM_e hl]
  have KN := Lib.hid (Sp.eqTo_next xs ys)
  have KS := Lib.hid (Sp.eqTo_stop xs ys)
  rw [← hl] at k2 HM2
  have HL := Lib.hid hl
  clear hl
  go_enter Try.func57, Try.ntmps57
  go_wp2_with fail
  go_quiet (fail)
  rename Nat => q0
  go_wp2_with fail
  have HB0 : Hid (Below w.heap.size w (w.drewN q0)) := Lib.hid (Sp.bel_drewNS (Below.refl _ _) _)
  clear m0 m1 m2 k0 k1 k2
  go_loopg [5] (xs.length + 1) (fun kx s5 wr => ∃ j : Nat, s5 = .int .i64 (j : Int) ∧ j ≤ xs.length ∧ kx = xs.length + 1 - j ∧ Hid (eqTo xs ys j = true) ∧ Hid (Below w.heap.size w wr))
  case atStart => exact ⟨0, rfl, Nat.zero_le _, rfl, Lib.hid rfl, HB0⟩
  case round =>
    obtain ⟨j, rfl, hj, rfl, HO, HB⟩ := hrel
    obtain ⟨-, -, m2⟩ := HM.out.below HB.out
    obtain ⟨-, -, k2⟩ := HM2.out.below HB.out
    by_cases hlt : j < xs.length
    · have hlt' : j < ys.length := by rw [← HL.out]; exact hlt
      obtain ⟨c0, c1⟩ := (H1.out.below HB.out).at j hlt
      obtain ⟨d0, d1⟩ := (H2.out.below HB.out).at j hlt'
      have HN := Lib.hid (KN.out j)
      have HS := Lib.hid (KS.out j hlt)
      rw [Sp.getD_at xs j hlt, Sp.getD_at ys j hlt'] at HN HS
      generalize xs[j] = x at *
      generalize ys[j] = y at *
      have NE : ∀ w, (binOp .neq 53 (.agg #[.int .i64 x.f0, .int .i64 x.f1]) (.agg #[.int .i64 y.f0, .int .i64 y.f1])).run Try.prog w = .ok (.bool (!(eqV x y))) w := fun w => Sp.neq_run x y w
      have EG : ∀ (p q : Operand) (w : World), (eqGuard .neq 53 p q (.agg #[.int .i64 x.f0, .int .i64 x.f1]) (.agg #[.int .i64 y.f0, .int .i64 y.f1])).run Try.prog w = .ok () w := fun p q w => run_eqGuard_agg w .neq 53 p q _ _ Sp.eq_guard
      generalize eqV x y = q at *
      obtain ⟨x0, x1⟩ := x
      obtain ⟨y0, y1⟩ := y
      simp only at c0 c1 d0 d1 NE EG
      have j0 : (0 : Int) ≤ (j : Int) := by omega
      have j1 : (j : Int) < (xs.length : Int) := by omega
      cases q with
      | true =>
        have HT : Hid (eqTo xs ys (j + 1) = true) := Lib.hid (by rw [HN.out, HO.out]; rfl)
        clear HN HS KN KS
        go_wp2_with fail
        go_quiet (fail)
        rename Nat => q1
        go_wp2_with fail
        go_roundg (xs.length + 1 - (j + 1))
        case measure => omega
        case rel => exact ⟨j + 1, by go_num, by omega, by omega, HT, Lib.hid (Sp.bel_drewNS HB.out _)⟩
      | false =>
        have HR := Lib.hid (HS.out rfl)
        clear HN HS KN KS
        go_wp2_with fail
        go_quiet (fail)
        rename Nat => q1
        go_wp2_with fail
        go_ret
        exact ⟨ret_bool HR.out.symm, Sp.bel_drewNS HB.out _⟩
    · obtain rfl : j = xs.length := by omega
      go_wp2_with fail
      go_ret
      exact ⟨ret_bool HO.out.symm, HB.out⟩

set_option maxHeartbeats 1000000 in
theorem specSame_any (c r c' r' : Int) (g g' cap cap' : Nat) (xs ys : List V) (w : World) (hb : xs.length ≤ 1048577) (hb2 : ys.length ≤ 1048577) (h1 : Row w g xs) (h2 : Row w g' ys) :
    Calls Try.prog 16 #[.agg #[.int .i64 c, .int .i64 r, .slice (some ⟨g, 0, none⟩) xs.length cap], .agg #[.int .i64 c', .int .i64 r', .slice (some ⟨g', 0, none⟩) ys.length cap']] w fun e w' => e = .returned (.bool (sameM c r c' r' xs ys)) ∧ Below w.heap.size w w' := by
  have O := Lib.hid (fun (W : World) (hB : Below w.heap.size w W) b b' hm hm2 => l11Same_any b b' c r c' r' g g' cap cap' xs ys W hb hb2 hm hm2 (h1.below hB) (h2.below hB))
  clear h1 h2
  obtain ⟨W1, hW1⟩ : ∃ W, W = w.alloc (Obj.cells #[.int .i64 c, .int .i64 r, .slice (some ⟨g, 0, none⟩) xs.length cap] 29) := ⟨_, rfl⟩
  have hb1 : Below w.heap.size w W1 := by rw [hW1]; exact (Below.refl _ _).alloc (Nat.le_refl _) _
  have hz : W1.heap.size = w.heap.size + 1 := by rw [hW1]; simp
  have M1 : MAt W1 w.heap.size c r (.slice (some ⟨g, 0, none⟩) xs.length cap) := by rw [hW1]; exact MAt.new _ _ _ _ _
  have hb2 := hb1.alloc hb1.size (Obj.cells #[.int .i64 c', .int .i64 r', .slice (some ⟨g', 0, none⟩) ys.length cap'] 29)
  have M1' := M1.below ((Below.refl _ W1).alloc (Nat.le_refl _) (Obj.cells #[.int .i64 c', .int .i64 r', .slice (some ⟨g', 0, none⟩) ys.length cap'] 29))
  have M2 := MAt.new W1 c' r' (.slice (some ⟨g', 0, none⟩) ys.length cap') 29
  rw [hz] at M2
  have OO := Lib.hid (O.out _ hb2 _ _ M1' M2)
  have HB2 := Lib.hid hb2
  clear O M1 M1' M2 hb1 hb2
  go_enter Try.func16, Try.ntmps16
  go_wp2_with fail
  rw [hW1] at OO HB2 hz
  refine (OO.out).mono ?_
  rintro e w1 ⟨rfl, hb3⟩
  have HB3 := Lib.hid (HB2.out.trans (hb3.mono HB2.out.size))
  clear hb3
  go_wp2_with fail
  go_ret
  exact ⟨rfl, HB3.out⟩
end Go.Proofs.Ytleaoemckdkndaa.Me
