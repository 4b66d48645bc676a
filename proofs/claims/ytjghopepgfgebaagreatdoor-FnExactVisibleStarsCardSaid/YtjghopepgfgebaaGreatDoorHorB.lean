/-
  The turn by an angle: the contract of turnBy (package impl).
  Plain mathematics for the law on sines: odd and even, squares that add up nearly to the unit's square, arcs that lead back.
  The map of turns: the contract of axisTurns (package impl), and what a look into its map gives.
  Turns around an axis: the contracts of turn.of, aroundX, aroundY, aroundZ (package impl).
  Turns around an axis in package spec: the contracts of l04Rotated, RotateAround.
  The mathematics of the horizon: the direction of a star over a site, its bounds, and that a star never goes up again before the hour angle 180000.
  Turns around an axis: the contract of RotateAround (package impl).
  The angles of a vector in package spec: the contracts of l04Angles, AnglesOf.
  Sites: as arguments; the contracts of szSite, toSite, eqSite (package laws), of ValidSite and the ranges of angles (packages impl and spec), of the codes for a site and angles.
  Sites: the codes for a site and angles; the greatest and the least altitude of a star (packages impl and spec).
  The direction of a star over a site: the contracts of exchanged, horizontal, equatorial, HorizontalVector (package impl), l06Vector, HorizontalVector (package spec).
  The direction of a star over a site in package impl: the contract of horizontal.
-/
import Derived.Test.YtjghopepgfgebaaGreatDoorSinW
import Derived.Test.YtjghopepgfgebaaGreatDoorVec0
import Derived.Test.YtjghopepgfgebaaGreatDoorArg0
import Derived.Test.YtjghopepgfgebaaGreatDoorAngMath
import Derived.Test.YtjghopepgfgebaaGreatDoorCore
import Derived.WideMake
import Derived.Maps.OwnOps
import Derived.Test.YtjghopepgfgebaaGreatDoorVecS
import Derived.Test.YtjghopepgfgebaaGreatDoorAng
import Derived.Deep.RegionHeld3
import Derived.StillTailTactics
import Derived.Test.YtjghopepgfgebaaGreatDoorVecR
import Derived.Shelf.Abstract
import Derived.Test.YtjghopepgfgebaaGreatDoorSArc
import Derived.Test.YtjghopepgfgebaaGreatDoorNam
import Derived.Test.YtjghopepgfgebaaGreatDoorDirV
import Derived.RegionTactic
import Derived.Deep.QuietTactic
import Derived.BigQuiet
import Derived.Deep.Draws
import Derived.Test.YtjghopepgfgebaaGreatDoorAbs
import Derived.Test.YtjghopepgfgebaaGreatDoorTow
import Derived.Test.YtjghopepgfgebaaGreatDoorBelow3
import Derived.Deep.Cut
namespace Go.Proofs.YtjghopepgfgebaaGreatDoor
section
open Go.RowKit
set_option linter.unusedVariables false

/-- A pair of numbers in a block of its own, that may be written. -/
structure D2 (w : World) (g : Nat) (a b : Int) : Prop where
  c0 : w.cell? ⟨g, 0, none⟩ = some (.int .i64 a)
  c1 : w.cell? ⟨g, 1, none⟩ = some (.int .i64 b)
  f0 : w.frozen? ⟨g, 0, none⟩ = false
  f1 : w.frozen? ⟨g, 1, none⟩ = false
theorem D2.inn {w : World} {g : Nat} {a b : Int} (h : D2 w g a b) : g < w.heap.size := World.block_lt_of_cell? w ⟨g, 0, none⟩ h.c0
theorem D2.on {w w' : World} {g : Nat} {a b : Int} (h : D2 w g a b) (hb : Below w.heap.size w w') : D2 w' g a b := by
  obtain ⟨k1, k2⟩ := bcell hb
  have hg := h.inn
  exact ⟨(k1 g 0 hg).trans h.c0, (k1 g 1 hg).trans h.c1, (k2 g 0 hg).trans h.f0, (k2 g 1 hg).trans h.f1⟩
theorem D2.new (w : World) (T : TypeId) (a b : Int) : D2 (w.alloc (.cells #[.int .i64 a, .int .i64 b] T)) w.heap.size a b := ⟨by simp, by simp, by simp, by simp⟩
theorem D2.alloc {w : World} {g : Nat} {a b : Int} (h : D2 w g a b) (o : Obj) : D2 (w.alloc o) g a b := h.on ((Below.refl _ _).alloc (Nat.le_refl _) o)

set_option maxHeartbeats 1000000 in
theorem turnBy_any (a : Int) (fa : fits a) (w : World) (hs : SinesOK w) :
    Calls Tryz.prog 127 #[.int .i64 a] w fun e w' => e = .returned (.agg #[.int .i64 (sinI a), .int .i64 (cosI a)]) ∧ Below w.heap.size w w' := by
  have S := Lib.hid (fun w hs => implSine_any a fa.1 fa.2 w hs)
  have C := Lib.hid (fun w hs => implCosine_any a fa.1 fa.2 w hs)
  have E := Lib.hid hs
  clear hs fa
  generalize sinI a = s at *
  generalize cosI a = c at *
  go_enter Tryz.func127, Tryz.ntmps127
  go_wp2_with fail
  refine (S.out _ (E.out.below (by repeat (first | exact Below.refl _ _ | refine Below.setCell ?_ (by first | (simp; done) | omega | (simp; omega)) _ | refine Below.alloc ?_ (by first | (simp; done) | omega | (simp; omega)) _ | refine bel_drew ?_)))).mono ?_
  rintro e w1 ⟨rfl, hb⟩
  have hsw1 := hb.size
  try simp at hsw1
  obtain ⟨hcw1, hfw1⟩ := bcell hb
  have HBw1 : Hid (Below w.heap.size w w1) := by
    apply Lib.hid
    refine Below.trans ?_ (hb.mono ?_)
    · repeat (first | exact Below.refl _ _ | refine Below.setCell ?_ (by first | (simp; done) | omega | (simp; omega)) _ | refine Below.alloc ?_ (by first | (simp; done) | omega | (simp; omega)) _)
    · first | (simp; done) | omega | (simp; omega)
  have hzw1 : w.heap.size < w1.heap.size := by have := hb.size; (try simp at this); omega
  clear hb
  go_wp2_with fail
  refine (C.out _ (E.out.below HBw1.out)).mono ?_
  rintro e w2 ⟨rfl, hb⟩
  have R : D2 w2 w.heap.size 0 0 := ⟨((bcell hb).1 _ _ hzw1).trans ((hcw1 _ _ (by simp)).trans (by simp)), ((bcell hb).1 _ _ hzw1).trans ((hcw1 _ _ (by simp)).trans (by simp)), ((bcell hb).2 _ _ hzw1).trans ((hfw1 _ _ (by simp)).trans (by simp)), ((bcell hb).2 _ _ hzw1).trans ((hfw1 _ _ (by simp)).trans (by simp))⟩
  have HB2 := Lib.hid (HBw1.out.trans (hb.mono HBw1.out.size))
  clear hb hcw1 hfw1
  obtain ⟨r0, r1, r2, r3⟩ := R
  go_wp2_with fail
  refine bodyPost_ret (v := .agg #[.int .i64 s, .int .i64 c]) (by first | (simp [results, Tryz.results127, go_sem]; done) | (simp [results, Tryz.results127, go_sem, *]; done)) rfl ⟨rfl, ?_⟩
  repeat (first | exact Below.refl _ _ | exact HB2.out | refine Below.setCell ?_ (by first | (simp; done) | omega | (simp; omega)) _ | refine Below.alloc ?_ (by first | (simp; done) | omega | (simp; omega)) _ | refine bel_drew ?_)
theorem fin_TurnB : True := trivial
end

section
theorem sinI_odd (a : Int) (h0 : 0 ≤ a) (h1 : a < 360000) : sinI (-a) = -sinI a := by
  by_cases c0 : a = 0
  · subst c0; decide +kernel
  · rw [← sinI_nrm (-a), show nrm (-a) = 360000 - a by unfold nrm; omega]
    by_cases c1 : a ≤ 90000
    · rw [sinI_q1 a h0 c1, sinI_q4 _ (by omega) (by omega)]; congr 2; omega
    · by_cases c2 : a ≤ 180000
      · rw [sinI_q2 a (by omega) c2, sinI_q3 _ (by omega) (by omega)]; congr 2; omega
      · by_cases c3 : a ≤ 270000
        · rw [sinI_q3 a (by omega) c3, sinI_q2 _ (by omega) (by omega), Int.neg_neg]; congr 1; omega
        · rw [sinI_q4 a (by omega) h1, sinI_q1 _ (by omega) (by omega), Int.neg_neg]
theorem sinI_half (a : Int) (h0 : 0 ≤ a) (h1 : a < 360000) : sinI (a + 180000) = -sinI a := by
  by_cases c1 : a ≤ 90000
  · rw [sinI_q1 a h0 c1, sinI_q3 _ (by omega) (by omega)]; congr 2; omega
  · by_cases c2 : a < 180000
    · rw [sinI_q2 a (by omega) (by omega), sinI_q4 _ (by omega) (by omega)]; congr 2; omega
    · rw [← sinI_nrm (a + 180000), show nrm (a + 180000) = a - 180000 by unfold nrm; omega]
      by_cases c3 : a ≤ 270000
      · rw [sinI_q3 a (by omega) c3, sinI_q1 _ (by omega) (by omega), Int.neg_neg]
      · rw [sinI_q4 a (by omega) h1, sinI_q2 _ (by omega) (by omega), Int.neg_neg]; congr 1; omega
theorem sinI_mirror (a : Int) (h0 : 0 ≤ a) (h1 : a < 360000) : sinI (180000 - a) = sinI a := by
  by_cases c : a ≤ 180000
  · by_cases c1 : a ≤ 90000
    · rw [sinI_q1 a h0 c1, sinI_q2 _ (by omega) (by omega)]; congr 1; omega
    · rw [sinI_q2 a (by omega) c, sinI_q1 _ (by omega) (by omega)]
  · rw [← sinI_nrm (180000 - a), show nrm (180000 - a) = 540000 - a by unfold nrm; omega]
    by_cases c3 : a ≤ 270000
    · rw [sinI_q3 a (by omega) c3, sinI_q4 _ (by omega) (by omega)]; congr 2; omega
    · rw [sinI_q4 a (by omega) h1, sinI_q3 _ (by omega) (by omega)]; congr 2; omega
theorem cosI_q34 (a : Int) (h0 : 180000 ≤ a) (h1 : a < 360000) : cosI a = if a < 270000 then -qs (270000 - a) else qs (a - 270000) := by
  unfold cosI
  rw [nrm_of a (by omega) h1]
  split
  · rw [sinI_q4 _ (by omega) (by omega)]; congr 2; omega
  · rw [← sinI_nrm (a + 90000), show nrm (a + 90000) = a - 270000 by unfold nrm; omega, sinI_q1 _ (by omega) (by omega)]
theorem cosI_even (a : Int) (h0 : 0 ≤ a) (h1 : a < 360000) : cosI (-a) = cosI a := by
  by_cases c0 : a = 0
  · subst c0; rfl
  · have e : cosI (-a) = cosI (360000 - a) := by unfold cosI; congr 2; unfold nrm; omega
    rw [e]
    by_cases c1 : a ≤ 90000
    · rw [cosI_1 a h0 c1, cosI_q34 _ (by omega) (by omega), if_neg (by omega)]; congr 1; omega
    · by_cases c2 : a ≤ 180000
      · rw [cosI_2 a (by omega) c2]
        by_cases c : a = 180000
        · subst c; rw [cosI_2 _ (by omega) (by omega)]; rfl
        · rw [cosI_q34 _ (by omega) (by omega), if_pos (by omega)]; congr 2; omega
      · rw [cosI_q34 a (by omega) h1]
        split
        · rw [cosI_2 _ (by omega) (by omega)]; congr 2; omega
        · rw [cosI_1 _ (by omega) (by omega)]; congr 1; omega

/-- Each step of the first 45 degrees is greater. -/
theorem tab_wide : ∀ k, k < 45 → tab k + 12000 ≤ tab (k + 1) := by decide +kernel
theorem qs_up (n : Int) (h0 : 0 ≤ n) (h1 : n < 45000) : qs n < qs (n + 1) := by
  have hw := tab_wide (n / 1000).toNat (by omega)
  by_cases c : n % 1000 = 999
  · have e : n + 1 = 1000 * (((n / 1000).toNat + 1 : Nat) : Int) := by omega
    rw [e, qs_whole _ (by omega)]
    unfold qs
    rw [c]
    omega
  · have e1 : (n + 1) / 1000 = n / 1000 := by omega
    have e2 : (n + 1) % 1000 = n % 1000 + 1 := by omega
    unfold qs
    rw [e1, e2, Int.mul_add]
    generalize (tab ((n / 1000).toNat + 1) - tab (n / 1000).toNat) * (n % 1000) = x
    omega
theorem qs_lt {n m : Int} (h0 : 0 ≤ n) (h : n < m) (h1 : m ≤ 45000) : qs n < qs m := by
  have a := qs_up n h0 (by omega)
  have b := qs_mono (n := n + 1) (m := m) (by omega) (by omega) (by omega)
  omega
theorem qs_pos (m : Int) (h : 0 < m) (h1 : m ≤ 90000) : 0 < qs m := by
  by_cases c : m ≤ 45000
  · have := qs_lt (n := 0) (m := m) (by omega) h c
    rw [qs_0] at this; exact this
  · have := qs_lt (n := 0) (m := 45000) (by omega) (by omega) (by omega)
    have := qs_mono (n := 45000) (m := m) (by omega) (by omega) h1
    rw [qs_0] at *; omega

theorem arc_self (m : Nat) (h : m ≤ 45000) : arcN (qs m) (qs (90000 - m)) = m := by
  have b1 := qs_bd m (by omega) (by omega)
  have b2 := qs_pos (90000 - m) (by omega) (by omega)
  have ai := arc_iff (qs m) (qs (90000 - m)) (by omega) (by omega)
  have al := arc_le (qs m) (qs (90000 - m))
  have up : arcN (qs m) (qs (90000 - m)) ≤ m := by
    by_cases c : m < 45000
    · refine (ai m c).1 ?_
      rw [cosI_1 _ (by omega) (by omega), sinI_q1 _ (by omega) (by omega), Int.mul_comm]
      exact Int.le_refl _
    · omega
  by_cases c : arcN (qs m) (qs (90000 - m)) < m
  · exfalso
    have h3 := (ai _ (by omega)).2 (Nat.le_refl _)
    generalize arcN (qs m) (qs (90000 - m)) = j at *
    rw [cosI_1 _ (by omega) (by omega), sinI_q1 _ (by omega) (by omega)] at h3
    have l1 := qs_lt (n := j) (m := m) (by omega) (by omega) (by omega)
    have l2 := qs_mono (n := 90000 - m) (m := 90000 - j) (by omega) (by omega) (by omega)
    have e1 : qs (j : Int) * qs (90000 - m) < qs (m : Int) * qs (90000 - m) := Int.mul_lt_mul_of_pos_right l1 b2
    have e2 : qs (m : Int) * qs (90000 - m) ≤ qs (m : Int) * qs (90000 - j) := Int.mul_le_mul_of_nonneg_left l2 b1.1
    rw [Int.mul_comm (qs (90000 - (j : Int)))] at h3
    omega
  · omega
theorem base_self (y x m : Int) (h0 : 0 ≤ m) (h1 : m ≤ 90000) (hy : ab y = qs m) (hx : ab x = qs (90000 - m)) : base y x = m := by
  unfold base
  rw [hy, hx]
  by_cases c : m ≤ 45000
  · have hm := qs_mono (n := m) (m := 90000 - m) h0 (by omega) (by omega)
    rw [if_neg (by omega)]
    have := arc_self m.toNat (by omega)
    rw [show ((m.toNat : Nat) : Int) = m by omega] at this
    omega
  · have l1 := qs_lt (n := 90000 - m) (m := 45000) (by omega) (by omega) (by omega)
    have l2 := qs_mono (n := 45000) (m := m) (by omega) (by omega) (by omega)
    rw [if_pos (by omega)]
    have := arc_self (90000 - m).toNat (by omega)
    rw [show (((90000 - m).toNat : Nat) : Int) = 90000 - m by omega, show 90000 - (90000 - m) = m by omega] at this
    omega
theorem ab_pos (x : Int) (h : 0 ≤ x) : ab x = x := by unfold ab; rw [if_neg (by omega)]
theorem ab_neg (x : Int) (h : x ≤ 0) : ab x = -x := by unfold ab; split <;> omega
theorem dir_self (a : Int) (h0 : 0 ≤ a) (h1 : a < 360000) : dirI (sinI a) (cosI a) = a := by
  by_cases c1 : a ≤ 90000
  · have b1 := qs_bd a h0 c1
    have b2 := qs_bd (90000 - a) (by omega) (by omega)
    rw [sinI_q1 a h0 c1, cosI_1 a h0 c1]
    have := base_self (qs a) (qs (90000 - a)) a h0 c1 (ab_pos _ b1.1) (ab_pos _ b2.1)
    unfold dirI
    rw [if_pos (by omega), this]
  · by_cases c2 : a ≤ 180000
    · have b1 := qs_bd (180000 - a) (by omega) (by omega)
      have b2 := qs_pos (a - 90000) (by omega) (by omega)
      rw [sinI_q2 a (by omega) c2, cosI_2 a (by omega) c2]
      have := base_self (qs (180000 - a)) (-qs (a - 90000)) (180000 - a) (by omega) (by omega) (ab_pos _ b1.1) (by rw [ab_neg _ (by omega), Int.neg_neg]; congr 1; omega)
      unfold dirI
      rw [if_neg (by omega), if_pos (by omega), this]; omega
    · have hc := cosI_q34 a (by omega) h1
      by_cases c3 : a < 270000
      · have b1 := qs_pos (a - 180000) (by omega) (by omega)
        have b2 := qs_pos (270000 - a) (by omega) (by omega)
        rw [if_pos c3] at hc
        rw [sinI_q3 a (by omega) (by omega), hc]
        have := base_self (-qs (a - 180000)) (-qs (270000 - a)) (a - 180000) (by omega) (by omega) (by rw [ab_neg _ (by omega), Int.neg_neg]) (by rw [ab_neg _ (by omega), Int.neg_neg]; congr 1; omega)
        unfold dirI
        rw [if_neg (by omega), if_neg (by omega), if_pos (by omega), this]; omega
      · have b1 := qs_pos (360000 - a) (by omega) (by omega)
        have b2 := qs_bd (a - 270000) (by omega) (by omega)
        rw [if_neg c3] at hc
        rw [sinI_q4 a (by omega) h1, hc]
        have := base_self (-qs (360000 - a)) (qs (a - 270000)) (360000 - a) (by omega) (by omega) (by rw [ab_neg _ (by omega), Int.neg_neg]) (by rw [ab_pos _ b2.1]; congr 1; omega)
        unfold dirI
        rw [if_neg (by omega), if_neg (by omega), if_neg (by omega), this]
        unfold nrm; omega

/-- What the table gives of the squares, degree by degree. -/
def sqA (k : Nat) : Int := tab k * tab k + tab (90 - k) * tab (90 - k) - 1000000000000
def sqG (k : Nat) : Int := (tab (k + 1) - tab k) * (tab (k + 1) - tab k) + (tab (90 - k) - tab (89 - k)) * (tab (90 - k) - tab (89 - k))
theorem sq_facts : ∀ k, k < 90 → (-2000000 ≤ sqA k ∧ sqA k ≤ 2000000) ∧ (-2000000 ≤ sqA (k + 1) ∧ sqA (k + 1) ≤ 2000000) ∧ (0 ≤ sqG k ∧ sqG k ≤ 320000000) := by decide +kernel
theorem near_sq (S s m : Int) (h0 : 0 ≤ S) (h1 : S ≤ m) (d0 : -500 ≤ 1000 * s - S) (d1 : 1000 * s - S ≤ 500) (hm : 1000 ≤ m) :
    S * S - 2001 * m ≤ 1000000 * (s * s) ∧ 1000000 * (s * s) ≤ S * S + 2001 * m := by
  obtain ⟨d, hd⟩ : ∃ d, d = 1000 * s - S := ⟨_, rfl⟩
  have e : 1000000 * (s * s) = S * S + (2 * (S * d) + d * d) := by
    have : 1000 * s = S + d := by omega
    have : (1000 * s) * (1000 * s) = (S + d) * (S + d) := by rw [this]
    grind
  have u1 : S * d ≤ S * 500 := Int.mul_le_mul_of_nonneg_left (by omega) h0
  have u2 : S * (-500) ≤ S * d := Int.mul_le_mul_of_nonneg_left (by omega) h0
  have u3 : 0 ≤ d * d := by
    by_cases c : 0 ≤ d
    · exact Int.mul_nonneg c c
    · have := Int.mul_nonneg (show 0 ≤ -d by omega) (show 0 ≤ -d by omega)
      rw [Int.neg_mul_neg] at this; exact this
  have u4 : d * d ≤ 500 * 500 := by
    by_cases c : 0 ≤ d
    · exact Int.mul_le_mul (by omega) (by omega) c (by omega)
    · have h5 : (-d) * (-d) ≤ 500 * 500 := Int.mul_le_mul (by omega) (by omega) (by omega) (by omega)
      rw [Int.neg_mul_neg] at h5; exact h5
  omega
theorem sq_line (k : Nat) (hk : k < 90) (r s c : Int) (h0 : 0 ≤ r) (h1 : r ≤ 1000)
    (s0 : -500 ≤ 1000 * s - (1000 * tab k + (tab (k + 1) - tab k) * r)) (s1 : 1000 * s - (1000 * tab k + (tab (k + 1) - tab k) * r) ≤ 500)
    (c0 : -500 ≤ 1000 * c - (1000 * tab (90 - k) - (tab (90 - k) - tab (89 - k)) * r)) (c1 : 1000 * c - (1000 * tab (90 - k) - (tab (90 - k) - tab (89 - k)) * r) ≤ 500) :
    -200000000 ≤ s * s + c * c - 1000000000000 ∧ s * s + c * c - 1000000000000 ≤ 200000000 := by
  obtain ⟨⟨a0, a1⟩, ⟨b0, b1⟩, g0, g1⟩ := sq_facts k hk
  have t0 := tab_bd k (by omega)
  have t1 := tab_bd (k + 1) (by omega)
  have t2 := tab_bd (90 - k) (by omega)
  have t3 := tab_bd (89 - k) (by omega)
  have st1 := tab_step k hk
  have st2 := tab_step (89 - k) (by omega)
  rw [show 89 - k + 1 = 90 - k by omega] at st2
  unfold sqA sqG at *
  rw [show 90 - (k + 1) = 89 - k by omega] at b0 b1
  generalize tab k = p at *
  generalize tab (k + 1) = p' at *
  generalize tab (90 - k) = q at *
  generalize tab (89 - k) = q' at *
  have r1 : (p' - p) * r ≤ (p' - p) * 1000 := Int.mul_le_mul_of_nonneg_left h1 (by omega)
  have r2 : 0 ≤ (p' - p) * r := Int.mul_nonneg (by omega) h0
  have r3 : (q - q') * r ≤ (q - q') * 1000 := Int.mul_le_mul_of_nonneg_left h1 (by omega)
  have r4 : 0 ≤ (q - q') * r := Int.mul_nonneg (by omega) h0
  obtain ⟨n1, n2⟩ := near_sq (1000 * p + (p' - p) * r) s 1000000000 (by omega) (by omega) s0 s1 (by omega)
  obtain ⟨n3, n4⟩ := near_sq (1000 * q - (q - q') * r) c 1000000000 (by omega) (by omega) c0 c1 (by omega)
  have z0 : 0 ≤ r * (1000 - r) := Int.mul_nonneg h0 (by omega)
  have z1 : r * (1000 - r) ≤ 250000 := by
    have : 0 ≤ (r - 500) * (r - 500) := by
      by_cases c : 500 ≤ r
      · exact Int.mul_nonneg (by omega) (by omega)
      · have := Int.mul_nonneg (show 0 ≤ 500 - r by omega) (show 0 ≤ 500 - r by omega)
        grind
    grind
  have key : (1000 * p + (p' - p) * r) * (1000 * p + (p' - p) * r) + (1000 * q - (q - q') * r) * (1000 * q - (q - q') * r)
      = 1000 * ((p * p + q * q) * (1000 - r)) + 1000 * ((p' * p' + q' * q') * r) - ((p' - p) * (p' - p) + (q - q') * (q - q')) * (r * (1000 - r)) := by grind
  have w1 : ((p' - p) * (p' - p) + (q - q') * (q - q')) * (r * (1000 - r)) ≤ 320000000 * 250000 := Int.mul_le_mul g1 z1 z0 (by omega)
  have w0 : 0 ≤ ((p' - p) * (p' - p) + (q - q') * (q - q')) * (r * (1000 - r)) := Int.mul_nonneg g0 z0
  have v1 : (p * p + q * q) * (1000 - r) ≤ 1000002000000 * (1000 - r) := Int.mul_le_mul_of_nonneg_right (by omega) (by omega)
  have v2 : 999998000000 * (1000 - r) ≤ (p * p + q * q) * (1000 - r) := Int.mul_le_mul_of_nonneg_right (by omega) (by omega)
  have v3 : (p' * p' + q' * q') * r ≤ 1000002000000 * r := Int.mul_le_mul_of_nonneg_right (by omega) h0
  have v4 : 999998000000 * r ≤ (p' * p' + q' * q') * r := Int.mul_le_mul_of_nonneg_right (by omega) h0
  omega
theorem qs_near (n : Int) : -500 ≤ 1000 * qs n - (1000 * tab (n / 1000).toNat + (tab ((n / 1000).toNat + 1) - tab (n / 1000).toNat) * (n % 1000)) ∧ 1000 * qs n - (1000 * tab (n / 1000).toNat + (tab ((n / 1000).toNat + 1) - tab (n / 1000).toNat) * (n % 1000)) ≤ 500 := by
  unfold qs
  generalize (tab ((n / 1000).toNat + 1) - tab (n / 1000).toNat) * (n % 1000) = x
  omega
theorem sq_q (n : Int) (h0 : 0 ≤ n) (h1 : n ≤ 90000) : -200000000 ≤ qs n * qs n + qs (90000 - n) * qs (90000 - n) - 1000000000000 ∧ qs n * qs n + qs (90000 - n) * qs (90000 - n) - 1000000000000 ≤ 200000000 := by
  by_cases c : n = 90000
  · subst c; decide +kernel
  · obtain ⟨a0, a1⟩ := qs_near n
    obtain ⟨b0, b1⟩ := qs_near (90000 - n)
    refine sq_line (n / 1000).toNat (by omega) (n % 1000) _ _ (by omega) (by omega) a0 a1 ?_ ?_
    all_goals
      by_cases d : n % 1000 = 0
      · have e : (90000 - n) = 1000 * ((90 - (n / 1000).toNat : Nat) : Int) := by omega
        rw [e, qs_whole _ (by omega), d, Int.mul_zero]; omega
      · rw [show ((90000 - n) / 1000).toNat = 89 - (n / 1000).toNat by omega, show 89 - (n / 1000).toNat + 1 = 90 - (n / 1000).toNat by omega, show (90000 - n) % 1000 = 1000 - n % 1000 by omega, Int.mul_sub] at b0 b1
        generalize (tab (90 - (n / 1000).toNat) - tab (89 - (n / 1000).toNat)) * (n % 1000) = x at *
        omega
theorem sq_all (a : Int) (h0 : 0 ≤ a) (h1 : a < 360000) : -200000000 ≤ sinI a * sinI a + cosI a * cosI a - 1000000000000 ∧ sinI a * sinI a + cosI a * cosI a - 1000000000000 ≤ 200000000 := by
  by_cases c1 : a ≤ 90000
  · rw [sinI_q1 a h0 c1, cosI_1 a h0 c1]; exact sq_q a h0 c1
  · by_cases c2 : a ≤ 180000
    · rw [sinI_q2 a (by omega) c2, cosI_2 a (by omega) c2, Int.neg_mul_neg]
      have := sq_q (180000 - a) (by omega) (by omega)
      rw [show 90000 - (180000 - a) = a - 90000 by omega] at this; exact this
    · have hc := cosI_q34 a (by omega) h1
      by_cases c3 : a < 270000
      · rw [if_pos c3] at hc
        rw [sinI_q3 a (by omega) (by omega), hc, Int.neg_mul_neg, Int.neg_mul_neg]
        have := sq_q (a - 180000) (by omega) (by omega)
        rw [show 90000 - (a - 180000) = 270000 - a by omega] at this; exact this
      · rw [if_neg c3] at hc
        rw [sinI_q4 a (by omega) h1, hc, Int.neg_mul_neg]
        have := sq_q (360000 - a) (by omega) (by omega)
        rw [show 90000 - (360000 - a) = a - 270000 by omega] at this; exact this
theorem asin_at (v : Int) (h1 : v ≤ 1000000) : v ≤ sinI (-90000 + (asinN v : Int)) := by
  have := asin_le v
  by_cases c : asinN v < 180000
  · exact (asin_iff v _ c).2 (Nat.le_refl _)
  · rw [show (asinN v : Int) = 180000 by omega, show (-90000 + 180000 : Int) = 90000 by omega, sinI_q1 _ (by omega) (by omega), qs_90]; exact h1
theorem asin_before (v : Int) (h : 1 ≤ asinN v) : sinI (-90000 + (asinN v : Int) - 1) < v := by
  have := asin_le v
  have := mt (asin_iff v (asinN v - 1) (by omega)).1 (by omega)
  rw [show -90000 + (asinN v : Int) - 1 = -90000 + ((asinN v - 1 : Nat) : Int) by omega]
  omega
theorem acos_at (v : Int) (h1 : -1000000 ≤ v) : cosI (acosN v : Int) ≤ v := by
  have := acos_le v
  by_cases c : acosN v < 180000
  · exact (acos_iff v _ c).2 (Nat.le_refl _)
  · rw [show (acosN v : Int) = 180000 by omega, cosI_2 _ (by omega) (by omega), show (180000 - 90000 : Int) = 90000 by omega, qs_90]; omega
theorem acos_before (v : Int) (h : 1 ≤ acosN v) : v < cosI ((acosN v : Int) - 1) := by
  have := acos_le v
  have := mt (acos_iff v (acosN v - 1) (by omega)).1 (by omega)
  rw [show (acosN v : Int) - 1 = ((acosN v - 1 : Nat) : Int) by omega]
  omega
theorem fin_SinMath : True := trivial
end

section
open Go.RowKit
set_option linter.unusedVariables false

def fn (k : Nat) : Value := .func (.func k) #[] #[]
def ents (n : Nat) : Array MapEntry := (#[⟨.int .i64 1, fn 149, 0⟩, ⟨.int .i64 2, fn 150, 1⟩, ⟨.int .i64 3, fn 151, 2⟩] : Array MapEntry).take n

theorem push_set {α : Type} (a : Array α) (x y : α) : (a.push x).setIfInBounds a.size y = a.push y := by
  apply Array.ext_getElem?
  intro i
  rw [Array.getElem?_setIfInBounds, Array.getElem?_push, Array.getElem?_push, Array.size_push]
  by_cases h : a.size = i
  · subst h; simp
  · have h' : ¬ i = a.size := fun e => h e.symm
    simp [h, h']
theorem put_new (v : World) (k : Int) (es : Array MapEntry) (c : Nat) (val : Value) (hf : Instr.findNow (.int .i64) (.int .i64 k) es.toList 0 = some none) :
    (Instr.mapUpdate 147 (.map (some v.heap.size)) (.int .i64 k) val).run Tryz.prog (v.alloc (.map es c)) = .ok () (v.alloc (.map (es.push { key := .int .i64 k, val := val, born := c }) (c + 1))) := by
  have hb : (v.alloc (.map es c)).heap[v.heap.size]? = some (.map es c) := by show (v.heap.push _)[v.heap.size]? = _; simp
  have hk := Tryz.underlying2
  have hc : (Instr.checkKey false 10000 2 (.int .i64 k)).run Tryz.prog (v.alloc (.map es c)) = .ok () (v.alloc (.map es c)) := MapKept.run_checkKey (k := .int .i64 k) hk (show MapKept.IsKey (.int .i64) (.int .i64 k) from rfl) false 9999
  simp [Instr.mapUpdate, run_underlying Tryz.underlying147, MapKept.run_getObj_map hb, hc, MapKept.run_findKey hk hf, MapKept.run_setObj_map _ hb, Result.andThen]
  show ({ heap := (v.heap.push (.map es c)).setIfInBounds v.heap.size _, tape := _, drawn := _, os := _, output := _ } : World) = _
  rw [push_set]
  rfl
theorem put1 (v : World) : (Instr.mapUpdate 147 (.map (some v.heap.size)) (.int .i64 1) (.func (.func 149) #[] #[])).run Tryz.prog (v.alloc (.map #[] 0)) = .ok () (v.alloc (.map (ents 1) 1)) := put_new v 1 #[] 0 _ rfl
theorem put2 (v : World) : (Instr.mapUpdate 147 (.map (some v.heap.size)) (.int .i64 2) (.func (.func 150) #[] #[])).run Tryz.prog (v.alloc (.map (ents 1) 1)) = .ok () (v.alloc (.map (ents 2) 2)) := put_new v 2 (ents 1) 1 _ rfl
theorem put3 (v : World) : (Instr.mapUpdate 147 (.map (some v.heap.size)) (.int .i64 3) (.func (.func 151) #[] #[])).run Tryz.prog (v.alloc (.map (ents 2) 2)) = .ok () (v.alloc (.map (ents 3) 3)) := put_new v 3 (ents 2) 2 _ rfl
set_option maxHeartbeats 400000 in
theorem axisTurns_any (w : World) :
    Calls Tryz.prog 125 #[] w fun e w' => e = .returned (.map (some w.heap.size)) ∧ w' = w.alloc (.map (ents 3) 3) := by
  have hmm := @run_makeMap Tryz.prog
  have u1 := put1 w
  have u2 := put2 w
  have u3 := put3 w
  go_enter Tryz.func125, Tryz.ntmps125
  go_wp2_with fail
  go_ret
  exact ⟨rfl, rfl⟩

/-- A look into the map. -/
theorem look_at (W : World) (g : Nat) (hb : W.heap[g]? = some (.map (ents 3) 3)) (k : Int) (v : Value) (j : Nat) (hf : Instr.findNow (.int .i64) (.int .i64 k) (ents 3).toList 0 = some (some (j, v))) :
    (Instr.lookup 147 (.map (some g)) (.int .i64 k) true).run Tryz.prog W = .ok (.tuple #[v, .bool true]) W := by
  have hk := Tryz.underlying2
  have hc : (Instr.checkKey (ents 3).isEmpty 10000 2 (.int .i64 k)).run Tryz.prog W = .ok () W := MapKept.run_checkKey (k := .int .i64 k) hk (show MapKept.IsKey (.int .i64) (.int .i64 k) from rfl) (ents 3).isEmpty 9999
  simp [Instr.lookup, run_underlying Tryz.underlying147, MapKept.run_getObj_map hb, hc, MapKept.run_findKey hk hf, Result.andThen]
theorem look_none (W : World) (g : Nat) (hb : W.heap[g]? = some (.map (ents 3) 3)) (k : Int) (hf : Instr.findNow (.int .i64) (.int .i64 k) (ents 3).toList 0 = some none) :
    (Instr.lookup 147 (.map (some g)) (.int .i64 k) true).run Tryz.prog W = .ok (.tuple #[Value.nilFunc, .bool false]) W := by
  have hk := Tryz.underlying2
  have hc : (Instr.checkKey (ents 3).isEmpty 10000 2 (.int .i64 k)).run Tryz.prog W = .ok () W := MapKept.run_checkKey (k := .int .i64 k) hk (show MapKept.IsKey (.int .i64) (.int .i64 k) from rfl) (ents 3).isEmpty 9999
  simp [Instr.lookup, run_underlying Tryz.underlying147, MapKept.run_getObj_map hb, hc, MapKept.run_findKey hk hf, Result.andThen]
theorem find_none (k : Int) (h1 : k ≠ 1) (h2 : k ≠ 2) (h3 : k ≠ 3) : Instr.findNow (.int .i64) (.int .i64 k) (ents 3).toList 0 = some none := by
  have e1 : (k == 1) = false := by simpa using h1
  have e2 : (k == 2) = false := by simpa using h2
  have e3 : (k == 3) = false := by simpa using h3
  simp [ents, Instr.findNow, Instr.sameNow, e1, e2, e3]
theorem find_1 : Instr.findNow (.int .i64) (.int .i64 1) (ents 3).toList 0 = some (some (0, .func (.func 149) #[] #[])) := rfl
theorem find_2 : Instr.findNow (.int .i64) (.int .i64 2) (ents 3).toList 0 = some (some (1, .func (.func 150) #[] #[])) := rfl
theorem find_3 : Instr.findNow (.int .i64) (.int .i64 3) (ents 3).toList 0 = some (some (2, .func (.func 151) #[] #[])) := rfl
theorem fin_Axis : True := trivial
end

section
open Go.RowKit
set_option linter.unusedVariables false

theorem keepT {w W W' : World} {g : Nat} {x y : Int} (h : W.cell? ⟨g, 0, none⟩ = some (.int .i64 x) ∧ W.cell? ⟨g, 1, none⟩ = some (.int .i64 y) ∧ Below w.heap.size w W) (hb : Below W.heap.size W W') :
    W'.cell? ⟨g, 0, none⟩ = some (.int .i64 x) ∧ W'.cell? ⟨g, 1, none⟩ = some (.int .i64 y) ∧ Below w.heap.size w W' := by
  have hg := World.block_lt_of_cell? W ⟨g, 0, none⟩ h.1
  obtain ⟨k1, _⟩ := bcell hb
  exact ⟨(k1 _ _ hg).trans h.1, (k1 _ _ hg).trans h.2.1, h.2.2.trans (hb.mono h.2.2.size)⟩

set_option maxHeartbeats 1000000 in
theorem of_any (s c f g : Int) (s0 : -1000000 ≤ s ∧ s ≤ 1000000) (c0 : -1000000 ≤ c ∧ c ≤ 1000000) (f0 : -2000000 ≤ f ∧ f ≤ 2000000) (g0 : -2000000 ≤ g ∧ g ≤ 2000000) (w : World) :
    Calls Tryz.prog 169 #[.agg #[.int .i64 s, .int .i64 c], .int .i64 f, .int .i64 g] w fun e w' => e = .returned (.tuple #[.int .i64 (nearQ (f * c - g * s) 1000000), .int .i64 (nearQ (f * s + g * c) 1000000)]) ∧ Below w.heap.size w w' := by
  have p1 := pr_bd f c 2000000 1000000 f0.1 f0.2 c0.1 c0.2
  have p2 := pr_bd g s 2000000 1000000 g0.1 g0.2 s0.1 s0.2
  have p3 := pr_bd f s 2000000 1000000 f0.1 f0.2 s0.1 s0.2
  have p4 := pr_bd g c 2000000 1000000 g0.1 g0.2 c0.1 c0.2
  have N1 := Lib.hid (fun w => nearest_any (f * c - g * s) 1000000 w (by omega) (by omega) (by omega) (by omega))
  have N2 := Lib.hid (fun w => nearest_any (f * s + g * c) 1000000 w (by omega) (by omega) (by omega) (by omega))
  have m1 : IntKind.i64.wrap (f * c) = f * c := IntWalk.i64_in _ (by omega)
  have m2 : IntKind.i64.wrap (g * s) = g * s := IntWalk.i64_in _ (by omega)
  have m3 : IntKind.i64.wrap (f * s) = f * s := IntWalk.i64_in _ (by omega)
  have m4 : IntKind.i64.wrap (g * c) = g * c := IntWalk.i64_in _ (by omega)
  have m5 : IntKind.i64.wrap (f * c - g * s) = f * c - g * s := IntWalk.i64_in _ (by omega)
  have m6 : IntKind.i64.wrap (f * s + g * c) = f * s + g * c := IntWalk.i64_in _ (by omega)
  generalize nearQ (f * c - g * s) 1000000 = p at *
  generalize nearQ (f * s + g * c) 1000000 = q at *
  clear p1 p2 p3 p4 s0 c0 f0 g0
  obtain ⟨W1, hW1⟩ : ∃ W1, W1 = w.alloc (.cells #[.int .i64 s, .int .i64 c] 151) := ⟨_, rfl⟩
  have K : Hid (W1.cell? ⟨w.heap.size, 0, none⟩ = some (.int .i64 s) ∧ W1.cell? ⟨w.heap.size, 1, none⟩ = some (.int .i64 c) ∧ Below w.heap.size w W1) := Lib.hid (by rw [hW1]; exact ⟨by simp, by simp, (Below.refl _ _).alloc (Nat.le_refl _) _⟩)
  have HW := Lib.hid hW1
  clear hW1
  obtain ⟨k0, k1, _⟩ := K.out
  go_enter Tryz.func169, Tryz.ntmps169
  go_wp2_with fail
  rw [← HW.out]
  clear HW
  go_region_held3 (fun w' => w'.cell? ⟨w.heap.size, 0, none⟩ = some (.int .i64 s) ∧ w'.cell? ⟨w.heap.size, 1, none⟩ = some (.int .i64 c) ∧ Below w.heap.size w w') (first | (exact keepT K.out (bel_drew (Below.refl _ _))) | (exact keepT K.out y2) | (exact keepT K.out y1) | go_keep) ((first
    | (go_at_call 168; (first
      | ((with_reducible refine (N1.out _).mono ?_); rintro e x1 ⟨rfl, hx1⟩; have y1 := undrewV hx1)
      | ((with_reducible refine (N2.out _).mono ?_); rintro e x2 ⟨rfl, hx2⟩; have y2 := y1.trans (hx2.mono y1.size))))))
  rename_i held
  have HB := Lib.hid held.2.2
  clear held
  go_wp2_with fail
  go_ret2
  exact ⟨rfl, HB.out⟩

set_option maxHeartbeats 1000000 in
theorem aroundX_any (s c x y z : Int) (s0 : -1000000 ≤ s ∧ s ≤ 1000000) (c0 : -1000000 ≤ c ∧ c ≤ 1000000) (h : inV 2000000 x y z) (w : World) :
    Calls Tryz.prog 149 #[.agg #[.int .i64 x, .int .i64 y, .int .i64 z], .agg #[.int .i64 s, .int .i64 c]] w fun e w' => e = .returned (.agg #[.int .i64 x, .int .i64 (nearQ (y * c - z * s) 1000000), .int .i64 (nearQ (y * s + z * c) 1000000)]) ∧ Below w.heap.size w w' := by
  have O := Lib.hid (fun w => of_any s c y z s0 c0 h.2.1 h.2.2 w)
  generalize nearQ (y * c - z * s) 1000000 = p at *
  generalize nearQ (y * s + z * c) 1000000 = q at *
  clear h
  go_enter Tryz.func149, Tryz.ntmps149
  go_wp2_with fail
  refine (O.out _).mono ?_
  rintro e w1 ⟨rfl, hb⟩
  have A1 := (((C3.new w 71 x y z).alloc (by simp) (.cells #[.int .i64 s, .int .i64 c] 151)).alloc (by simp; omega) (.cells #[.int .i64 0, .int .i64 0, .int .i64 0] 71)).stays hb (by simp; omega)
  have R1 := (by simpa using C3.new ((w.alloc (.cells #[.int .i64 x, .int .i64 y, .int .i64 z] 71)).alloc (.cells #[.int .i64 s, .int .i64 c] 151)) 71 0 0 0 : C3 _ (w.heap.size + 1 + 1) 0 0 0).stays hb (by simp)
  have HB1 : Hid (Below w.heap.size w w1) := Lib.hid (Below.trans (by repeat (first | exact Below.refl _ _ | refine Below.alloc ?_ (by first | (simp; done) | omega | (simp; omega)) _)) (hb.mono (by simp; omega)))
  have hsz := hb.size
  simp at hsz
  clear hb
  have B1 := A1.set1 p
  have B2 := B1.set2 q
  have R2 : C3 ((w1.setCell ⟨w.heap.size, 1, none⟩ (.int .i64 p)).setCell ⟨w.heap.size, 2, none⟩ (.int .i64 q)) (w.heap.size + 1 + 1) 0 0 0 := (R1.other (by omega)).other (by omega)
  clear R1
  obtain ⟨a0, a1, a2, a3, a4, a5⟩ := A1
  obtain ⟨b0, b1, b2, b3, b4, b5⟩ := B1
  obtain ⟨c0', c1', c2', c3', c4', c5'⟩ := B2
  obtain ⟨r0, r1, r2, r3, r4, r5⟩ := R2
  go_wp2_with fail
  refine bodyPost_ret (v := .agg #[.int .i64 x, .int .i64 p, .int .i64 q]) (by first | (simp [results, Tryz.results149, go_sem]; done) | (simp [results, Tryz.results149, go_sem, *]; done)) rfl ⟨rfl, ?_⟩
  repeat (first | exact Below.refl _ _ | exact HB1.out | refine Below.setCell ?_ (by first | (simp; done) | omega | (simp; omega)) _ | refine Below.alloc ?_ (by first | (simp; done) | omega | (simp; omega)) _ | refine bel_drew ?_)
set_option maxHeartbeats 1000000 in
theorem aroundY_any (s c x y z : Int) (s0 : -1000000 ≤ s ∧ s ≤ 1000000) (c0 : -1000000 ≤ c ∧ c ≤ 1000000) (h : inV 2000000 x y z) (w : World) :
    Calls Tryz.prog 150 #[.agg #[.int .i64 x, .int .i64 y, .int .i64 z], .agg #[.int .i64 s, .int .i64 c]] w fun e w' => e = .returned (.agg #[.int .i64 (nearQ (z * s + x * c) 1000000), .int .i64 y, .int .i64 (nearQ (z * c - x * s) 1000000)]) ∧ Below w.heap.size w w' := by
  have O := Lib.hid (fun w => of_any s c z x s0 c0 h.2.2 h.1 w)
  generalize nearQ (z * c - x * s) 1000000 = p at *
  generalize nearQ (z * s + x * c) 1000000 = q at *
  clear h
  go_enter Tryz.func150, Tryz.ntmps150
  go_wp2_with fail
  refine (O.out _).mono ?_
  rintro e w1 ⟨rfl, hb⟩
  have A1 := (((C3.new w 71 x y z).alloc (by simp) (.cells #[.int .i64 s, .int .i64 c] 151)).alloc (by simp; omega) (.cells #[.int .i64 0, .int .i64 0, .int .i64 0] 71)).stays hb (by simp; omega)
  have R1 := (by simpa using C3.new ((w.alloc (.cells #[.int .i64 x, .int .i64 y, .int .i64 z] 71)).alloc (.cells #[.int .i64 s, .int .i64 c] 151)) 71 0 0 0 : C3 _ (w.heap.size + 1 + 1) 0 0 0).stays hb (by simp)
  have HB1 : Hid (Below w.heap.size w w1) := Lib.hid (Below.trans (by repeat (first | exact Below.refl _ _ | refine Below.alloc ?_ (by first | (simp; done) | omega | (simp; omega)) _)) (hb.mono (by simp; omega)))
  have hsz := hb.size
  simp at hsz
  clear hb
  have B1 := A1.set2 p
  have B2 := B1.set0 q
  have R2 : C3 ((w1.setCell ⟨w.heap.size, 2, none⟩ (.int .i64 p)).setCell ⟨w.heap.size, 0, none⟩ (.int .i64 q)) (w.heap.size + 1 + 1) 0 0 0 := (R1.other (by omega)).other (by omega)
  clear R1
  obtain ⟨a0, a1, a2, a3, a4, a5⟩ := A1
  obtain ⟨b0, b1, b2, b3, b4, b5⟩ := B1
  obtain ⟨c0', c1', c2', c3', c4', c5'⟩ := B2
  obtain ⟨r0, r1, r2, r3, r4, r5⟩ := R2
  go_wp2_with fail
  refine bodyPost_ret (v := .agg #[.int .i64 q, .int .i64 y, .int .i64 p]) (by first | (simp [results, Tryz.results150, go_sem]; done) | (simp [results, Tryz.results150, go_sem, *]; done)) rfl ⟨rfl, ?_⟩
  repeat (first | exact Below.refl _ _ | exact HB1.out | refine Below.setCell ?_ (by first | (simp; done) | omega | (simp; omega)) _ | refine Below.alloc ?_ (by first | (simp; done) | omega | (simp; omega)) _ | refine bel_drew ?_)
set_option maxHeartbeats 1000000 in
theorem aroundZ_any (s c x y z : Int) (s0 : -1000000 ≤ s ∧ s ≤ 1000000) (c0 : -1000000 ≤ c ∧ c ≤ 1000000) (h : inV 2000000 x y z) (w : World) :
    Calls Tryz.prog 151 #[.agg #[.int .i64 x, .int .i64 y, .int .i64 z], .agg #[.int .i64 s, .int .i64 c]] w fun e w' => e = .returned (.agg #[.int .i64 (nearQ (x * c - y * s) 1000000), .int .i64 (nearQ (x * s + y * c) 1000000), .int .i64 z]) ∧ Below w.heap.size w w' := by
  have O := Lib.hid (fun w => of_any s c x y s0 c0 h.1 h.2.1 w)
  generalize nearQ (x * c - y * s) 1000000 = p at *
  generalize nearQ (x * s + y * c) 1000000 = q at *
  clear h
  go_enter Tryz.func151, Tryz.ntmps151
  go_wp2_with fail
  refine (O.out _).mono ?_
  rintro e w1 ⟨rfl, hb⟩
  have A1 := (((C3.new w 71 x y z).alloc (by simp) (.cells #[.int .i64 s, .int .i64 c] 151)).alloc (by simp; omega) (.cells #[.int .i64 0, .int .i64 0, .int .i64 0] 71)).stays hb (by simp; omega)
  have R1 := (by simpa using C3.new ((w.alloc (.cells #[.int .i64 x, .int .i64 y, .int .i64 z] 71)).alloc (.cells #[.int .i64 s, .int .i64 c] 151)) 71 0 0 0 : C3 _ (w.heap.size + 1 + 1) 0 0 0).stays hb (by simp)
  have HB1 : Hid (Below w.heap.size w w1) := Lib.hid (Below.trans (by repeat (first | exact Below.refl _ _ | refine Below.alloc ?_ (by first | (simp; done) | omega | (simp; omega)) _)) (hb.mono (by simp; omega)))
  have hsz := hb.size
  simp at hsz
  clear hb
  have B1 := A1.set0 p
  have B2 := B1.set1 q
  have R2 : C3 ((w1.setCell ⟨w.heap.size, 0, none⟩ (.int .i64 p)).setCell ⟨w.heap.size, 1, none⟩ (.int .i64 q)) (w.heap.size + 1 + 1) 0 0 0 := (R1.other (by omega)).other (by omega)
  clear R1
  obtain ⟨a0, a1, a2, a3, a4, a5⟩ := A1
  obtain ⟨b0, b1, b2, b3, b4, b5⟩ := B1
  obtain ⟨c0', c1', c2', c3', c4', c5'⟩ := B2
  obtain ⟨r0, r1, r2, r3, r4, r5⟩ := R2
  go_wp2_with fail
  refine bodyPost_ret (v := .agg #[.int .i64 p, .int .i64 q, .int .i64 z]) (by first | (simp [results, Tryz.results151, go_sem]; done) | (simp [results, Tryz.results151, go_sem, *]; done)) rfl ⟨rfl, ?_⟩
  repeat (first | exact Below.refl _ _ | exact HB1.out | refine Below.setCell ?_ (by first | (simp; done) | omega | (simp; omega)) _ | refine Below.alloc ?_ (by first | (simp; done) | omega | (simp; omega)) _ | refine bel_drew ?_)
theorem fin_Rot : True := trivial
end

section
open Go.RowKit
set_option linter.unusedVariables false

/-- The vector that a turn leads to, by the axis; s, c: the sine and the cosine. -/
def roX (ax x y z s c : Int) : Int := if ax = 1 then x else if ax = 2 then nearQ (x * c + z * s) 1000000 else nearQ (x * c - y * s) 1000000
def roY (ax x y z s c : Int) : Int := if ax = 1 then nearQ (y * c - z * s) 1000000 else if ax = 2 then y else nearQ (x * s + y * c) 1000000
def roZ (ax x y z s c : Int) : Int := if ax = 1 then nearQ (y * s + z * c) 1000000 else if ax = 2 then nearQ (z * c - x * s) 1000000 else z
def rotV (x y z ax a : Int) : Value := if okV x y z = true then (if inR 1 3 [ax] = true then doneV (roX ax x y z (sinI a) (cosI a)) (roY ax x y z (sinI a) (cosI a)) (roZ ax x y z (sinI a) (cosI a)) else .tuple #[.agg #[.int .i64 0, .int .i64 0, .int .i64 0], .int .i64 2]) else .tuple #[.agg #[.int .i64 0, .int .i64 0, .int .i64 0], .int .i64 1]
theorem rotV_form (x y z ax a : Int) : ∃ p q r d : Int, rotV x y z ax a = .tuple #[.agg #[.int .i64 p, .int .i64 q, .int .i64 r], .int .i64 d] := by
  unfold rotV
  split
  · split
    · exact doneV_form _ _ _
    · exact ⟨_, _, _, _, rfl⟩
  · exact ⟨_, _, _, _, rfl⟩
set_option maxRecDepth 100000 in
set_option maxHeartbeats 2000000 in
theorem l04Rot_1 (x y z a : Int) (h : inV 2000000 x y z) (a0 : -9223372036854775808 ≤ a) (a1 : a ≤ 9223372036854775807) (w : World) :
    Calls Tryz.prog 74 #[.agg #[.int .i64 x, .int .i64 y, .int .i64 z], .int .i64 1, .int .i64 a] w fun e w' => e = .returned (.agg #[.int .i64 (roX 1 x y z (sinI a) (cosI a)), .int .i64 (roY 1 x y z (sinI a) (cosI a)), .int .i64 (roZ 1 x y z (sinI a) (cosI a))]) ∧ Below w.heap.size w w' := by
  have SI := Lib.hid (fun w => l02Sine_any a a0 a1 w)
  have CO := Lib.hid (fun w => l02Cosine_any a a0 a1 w)
  have s01 := sinI_bd a
  have c01 := cosI_bd a
  generalize sinI a = s at *
  generalize cosI a = c at *
  have p0 := pr_bd y c 2000000 1000000 h.2.1.1 h.2.1.2 c01.1 c01.2
  have p1 := pr_bd z s 2000000 1000000 h.2.2.1 h.2.2.2 s01.1 s01.2
  have p2 := pr_bd y s 2000000 1000000 h.2.1.1 h.2.1.2 s01.1 s01.2
  have p3 := pr_bd z c 2000000 1000000 h.2.2.1 h.2.2.2 c01.1 c01.2
  have D1 := Lib.hid (fun w => l01Div_any (y * c - z * s) 1000000 w (by omega) (by omega) (by omega) (by omega) (by omega))
  have D2 := Lib.hid (fun w => l01Div_any (y * s + z * c) 1000000 w (by omega) (by omega) (by omega) (by omega) (by omega))
  have m0 : IntKind.i64.wrap (y * c) = y * c := IntWalk.i64_in _ (by omega)
  have m1 : IntKind.i64.wrap (z * s) = z * s := IntWalk.i64_in _ (by omega)
  have m2 : IntKind.i64.wrap (y * s) = y * s := IntWalk.i64_in _ (by omega)
  have m3 : IntKind.i64.wrap (z * c) = z * c := IntWalk.i64_in _ (by omega)
  have m4 : IntKind.i64.wrap (y * c - z * s) = y * c - z * s := IntWalk.i64_in _ (by omega)
  have m5 : IntKind.i64.wrap (y * s + z * c) = y * s + z * c := IntWalk.i64_in _ (by omega)
  have ex : roX 1 x y z s c = x := rfl
  have ey : roY 1 x y z s c = nearQ (y * c - z * s) 1000000 := rfl
  have ez : roZ 1 x y z s c = nearQ (y * s + z * c) 1000000 := rfl
  rw [ex, ey, ez]
  clear ex ey ez p0 p1 p2 p3 s01 c01 h
  generalize nearQ (y * c - z * s) 1000000 = P at *
  generalize nearQ (y * s + z * c) 1000000 = Q at *
  obtain ⟨W0, hW0⟩ : ∃ W0, W0 = (w.alloc (.cells #[.int .i64 x, .int .i64 y, .int .i64 z] 71)).alloc (.cells #[.int .i64 0, .int .i64 0, .int .i64 0] 71) := ⟨_, rfl⟩
  have A0 : C3 W0 w.heap.size x y z := by rw [hW0]; exact (C3.new _ _ _ _ _).alloc (by simp) _
  have R0 : C3 W0 (w.heap.size + 1) 0 0 0 := by rw [hW0]; simpa using C3.new (w.alloc (.cells #[.int .i64 x, .int .i64 y, .int .i64 z] 71)) 71 0 0 0
  have HB0 : Hid (Below w.heap.size w W0) := Lib.hid (by rw [hW0]; exact ((Below.refl _ _).alloc (Nat.le_refl _) _).alloc (by simp) _)
  have HW := Lib.hid hW0
  have HA0 := Lib.hid A0
  have HR0 := Lib.hid R0
  clear hW0 A0 R0
  go_enter Tryz.func74, Tryz.ntmps74
  go_wp2_with fail
  rw [← HW.out]
  clear HW
  refine (SI.out _).mono ?_
  rintro e w1 ⟨rfl, hb⟩
  have HA1 := Lib.hid (HA0.out.stays hb (World.block_lt_of_cell? W0 ⟨w.heap.size, 0, none⟩ HA0.out.c0))
  have HR1 := Lib.hid (HR0.out.stays hb (World.block_lt_of_cell? W0 ⟨w.heap.size + 1, 0, none⟩ HR0.out.c0))
  have HB1 := Lib.hid (HB0.out.trans (hb.mono HB0.out.size))
  clear hb HA0 HR0 HB0
  go_wp2_with fail
  refine (CO.out _).mono ?_
  rintro e w2 ⟨rfl, hb⟩
  have HA2 := HA1.out.stays hb (World.block_lt_of_cell? w1 ⟨w.heap.size, 0, none⟩ HA1.out.c0)
  have HR2 := HR1.out.stays hb (World.block_lt_of_cell? w1 ⟨w.heap.size + 1, 0, none⟩ HR1.out.c0)
  have HB2 := Lib.hid (HB1.out.trans (hb.mono HB1.out.size))
  clear hb HA1 HR1 HB1
  obtain ⟨k0, k1, k2, _, _, _⟩ := HA2
  obtain ⟨r0, r1, r2, r3, r4, r5⟩ := HR2
  go_wp2_with fail
  refine wp_region_still_tail 23 (by kernel_rfl) (by kernel_rfl) ?_
  simp only [List.take_succ_cons, List.take_zero, List.drop_succ_cons, List.drop_zero]
  repeat still_step
  still_call (quiet_w (D1.out _))
  repeat still_step
  still_call (quiet_w (D2.out _))
  repeat still_step
  refine wpStill_nil ?_
  clear k0 k1 k2 D1 D2 SI CO m0 m1 m2 m3 m4 m5
  go_wp2_with fail
  refine bodyPost_ret (v := .agg #[.int .i64 x, .int .i64 P, .int .i64 Q]) (by first | (simp [results, Tryz.results74, go_sem]; done) | (simp [results, Tryz.results74, go_sem, *]; done)) rfl ⟨rfl, ?_⟩
  repeat (first | exact Below.refl _ _ | exact HB2.out | refine Below.setCell ?_ (by first | (simp; done) | omega | (simp; omega)) _ | refine Below.alloc ?_ (by first | (simp; done) | omega | (simp; omega)) _ | refine bel_drew ?_)
set_option maxRecDepth 100000 in
set_option maxHeartbeats 2000000 in
theorem l04Rot_2 (x y z a : Int) (h : inV 2000000 x y z) (a0 : -9223372036854775808 ≤ a) (a1 : a ≤ 9223372036854775807) (w : World) :
    Calls Tryz.prog 74 #[.agg #[.int .i64 x, .int .i64 y, .int .i64 z], .int .i64 2, .int .i64 a] w fun e w' => e = .returned (.agg #[.int .i64 (roX 2 x y z (sinI a) (cosI a)), .int .i64 (roY 2 x y z (sinI a) (cosI a)), .int .i64 (roZ 2 x y z (sinI a) (cosI a))]) ∧ Below w.heap.size w w' := by
  have SI := Lib.hid (fun w => l02Sine_any a a0 a1 w)
  have CO := Lib.hid (fun w => l02Cosine_any a a0 a1 w)
  have s01 := sinI_bd a
  have c01 := cosI_bd a
  generalize sinI a = s at *
  generalize cosI a = c at *
  have p0 := pr_bd x c 2000000 1000000 h.1.1 h.1.2 c01.1 c01.2
  have p1 := pr_bd z s 2000000 1000000 h.2.2.1 h.2.2.2 s01.1 s01.2
  have p2 := pr_bd z c 2000000 1000000 h.2.2.1 h.2.2.2 c01.1 c01.2
  have p3 := pr_bd x s 2000000 1000000 h.1.1 h.1.2 s01.1 s01.2
  have D1 := Lib.hid (fun w => l01Div_any (x * c + z * s) 1000000 w (by omega) (by omega) (by omega) (by omega) (by omega))
  have D2 := Lib.hid (fun w => l01Div_any (z * c - x * s) 1000000 w (by omega) (by omega) (by omega) (by omega) (by omega))
  have m0 : IntKind.i64.wrap (x * c) = x * c := IntWalk.i64_in _ (by omega)
  have m1 : IntKind.i64.wrap (z * s) = z * s := IntWalk.i64_in _ (by omega)
  have m2 : IntKind.i64.wrap (z * c) = z * c := IntWalk.i64_in _ (by omega)
  have m3 : IntKind.i64.wrap (x * s) = x * s := IntWalk.i64_in _ (by omega)
  have m4 : IntKind.i64.wrap (x * c + z * s) = x * c + z * s := IntWalk.i64_in _ (by omega)
  have m5 : IntKind.i64.wrap (z * c - x * s) = z * c - x * s := IntWalk.i64_in _ (by omega)
  have ex : roX 2 x y z s c = nearQ (x * c + z * s) 1000000 := rfl
  have ey : roY 2 x y z s c = y := rfl
  have ez : roZ 2 x y z s c = nearQ (z * c - x * s) 1000000 := rfl
  rw [ex, ey, ez]
  clear ex ey ez p0 p1 p2 p3 s01 c01 h
  generalize nearQ (x * c + z * s) 1000000 = P at *
  generalize nearQ (z * c - x * s) 1000000 = Q at *
  obtain ⟨W0, hW0⟩ : ∃ W0, W0 = (w.alloc (.cells #[.int .i64 x, .int .i64 y, .int .i64 z] 71)).alloc (.cells #[.int .i64 0, .int .i64 0, .int .i64 0] 71) := ⟨_, rfl⟩
  have A0 : C3 W0 w.heap.size x y z := by rw [hW0]; exact (C3.new _ _ _ _ _).alloc (by simp) _
  have R0 : C3 W0 (w.heap.size + 1) 0 0 0 := by rw [hW0]; simpa using C3.new (w.alloc (.cells #[.int .i64 x, .int .i64 y, .int .i64 z] 71)) 71 0 0 0
  have HB0 : Hid (Below w.heap.size w W0) := Lib.hid (by rw [hW0]; exact ((Below.refl _ _).alloc (Nat.le_refl _) _).alloc (by simp) _)
  have HW := Lib.hid hW0
  have HA0 := Lib.hid A0
  have HR0 := Lib.hid R0
  clear hW0 A0 R0
  go_enter Tryz.func74, Tryz.ntmps74
  go_wp2_with fail
  rw [← HW.out]
  clear HW
  refine (SI.out _).mono ?_
  rintro e w1 ⟨rfl, hb⟩
  have HA1 := Lib.hid (HA0.out.stays hb (World.block_lt_of_cell? W0 ⟨w.heap.size, 0, none⟩ HA0.out.c0))
  have HR1 := Lib.hid (HR0.out.stays hb (World.block_lt_of_cell? W0 ⟨w.heap.size + 1, 0, none⟩ HR0.out.c0))
  have HB1 := Lib.hid (HB0.out.trans (hb.mono HB0.out.size))
  clear hb HA0 HR0 HB0
  go_wp2_with fail
  refine (CO.out _).mono ?_
  rintro e w2 ⟨rfl, hb⟩
  have HA2 := HA1.out.stays hb (World.block_lt_of_cell? w1 ⟨w.heap.size, 0, none⟩ HA1.out.c0)
  have HR2 := HR1.out.stays hb (World.block_lt_of_cell? w1 ⟨w.heap.size + 1, 0, none⟩ HR1.out.c0)
  have HB2 := Lib.hid (HB1.out.trans (hb.mono HB1.out.size))
  clear hb HA1 HR1 HB1
  obtain ⟨k0, k1, k2, _, _, _⟩ := HA2
  obtain ⟨r0, r1, r2, r3, r4, r5⟩ := HR2
  go_wp2_with fail
  refine wp_region_still_tail 23 (by kernel_rfl) (by kernel_rfl) ?_
  simp only [List.take_succ_cons, List.take_zero, List.drop_succ_cons, List.drop_zero]
  repeat still_step
  still_call (quiet_w (D1.out _))
  repeat still_step
  still_call (quiet_w (D2.out _))
  repeat still_step
  refine wpStill_nil ?_
  clear k0 k1 k2 D1 D2 SI CO m0 m1 m2 m3 m4 m5
  go_wp2_with fail
  refine bodyPost_ret (v := .agg #[.int .i64 P, .int .i64 y, .int .i64 Q]) (by first | (simp [results, Tryz.results74, go_sem]; done) | (simp [results, Tryz.results74, go_sem, *]; done)) rfl ⟨rfl, ?_⟩
  repeat (first | exact Below.refl _ _ | exact HB2.out | refine Below.setCell ?_ (by first | (simp; done) | omega | (simp; omega)) _ | refine Below.alloc ?_ (by first | (simp; done) | omega | (simp; omega)) _ | refine bel_drew ?_)
set_option maxRecDepth 100000 in
set_option maxHeartbeats 2000000 in
theorem l04Rot_3 (x y z a : Int) (h : inV 2000000 x y z) (a0 : -9223372036854775808 ≤ a) (a1 : a ≤ 9223372036854775807) (w : World) :
    Calls Tryz.prog 74 #[.agg #[.int .i64 x, .int .i64 y, .int .i64 z], .int .i64 3, .int .i64 a] w fun e w' => e = .returned (.agg #[.int .i64 (roX 3 x y z (sinI a) (cosI a)), .int .i64 (roY 3 x y z (sinI a) (cosI a)), .int .i64 (roZ 3 x y z (sinI a) (cosI a))]) ∧ Below w.heap.size w w' := by
  have SI := Lib.hid (fun w => l02Sine_any a a0 a1 w)
  have CO := Lib.hid (fun w => l02Cosine_any a a0 a1 w)
  have s01 := sinI_bd a
  have c01 := cosI_bd a
  generalize sinI a = s at *
  generalize cosI a = c at *
  have p0 := pr_bd x c 2000000 1000000 h.1.1 h.1.2 c01.1 c01.2
  have p1 := pr_bd y s 2000000 1000000 h.2.1.1 h.2.1.2 s01.1 s01.2
  have p2 := pr_bd x s 2000000 1000000 h.1.1 h.1.2 s01.1 s01.2
  have p3 := pr_bd y c 2000000 1000000 h.2.1.1 h.2.1.2 c01.1 c01.2
  have D1 := Lib.hid (fun w => l01Div_any (x * c - y * s) 1000000 w (by omega) (by omega) (by omega) (by omega) (by omega))
  have D2 := Lib.hid (fun w => l01Div_any (x * s + y * c) 1000000 w (by omega) (by omega) (by omega) (by omega) (by omega))
  have m0 : IntKind.i64.wrap (x * c) = x * c := IntWalk.i64_in _ (by omega)
  have m1 : IntKind.i64.wrap (y * s) = y * s := IntWalk.i64_in _ (by omega)
  have m2 : IntKind.i64.wrap (x * s) = x * s := IntWalk.i64_in _ (by omega)
  have m3 : IntKind.i64.wrap (y * c) = y * c := IntWalk.i64_in _ (by omega)
  have m4 : IntKind.i64.wrap (x * c - y * s) = x * c - y * s := IntWalk.i64_in _ (by omega)
  have m5 : IntKind.i64.wrap (x * s + y * c) = x * s + y * c := IntWalk.i64_in _ (by omega)
  have ex : roX 3 x y z s c = nearQ (x * c - y * s) 1000000 := rfl
  have ey : roY 3 x y z s c = nearQ (x * s + y * c) 1000000 := rfl
  have ez : roZ 3 x y z s c = z := rfl
  rw [ex, ey, ez]
  clear ex ey ez p0 p1 p2 p3 s01 c01 h
  generalize nearQ (x * c - y * s) 1000000 = P at *
  generalize nearQ (x * s + y * c) 1000000 = Q at *
  obtain ⟨W0, hW0⟩ : ∃ W0, W0 = (w.alloc (.cells #[.int .i64 x, .int .i64 y, .int .i64 z] 71)).alloc (.cells #[.int .i64 0, .int .i64 0, .int .i64 0] 71) := ⟨_, rfl⟩
  have A0 : C3 W0 w.heap.size x y z := by rw [hW0]; exact (C3.new _ _ _ _ _).alloc (by simp) _
  have R0 : C3 W0 (w.heap.size + 1) 0 0 0 := by rw [hW0]; simpa using C3.new (w.alloc (.cells #[.int .i64 x, .int .i64 y, .int .i64 z] 71)) 71 0 0 0
  have HB0 : Hid (Below w.heap.size w W0) := Lib.hid (by rw [hW0]; exact ((Below.refl _ _).alloc (Nat.le_refl _) _).alloc (by simp) _)
  have HW := Lib.hid hW0
  have HA0 := Lib.hid A0
  have HR0 := Lib.hid R0
  clear hW0 A0 R0
  go_enter Tryz.func74, Tryz.ntmps74
  go_wp2_with fail
  rw [← HW.out]
  clear HW
  refine (SI.out _).mono ?_
  rintro e w1 ⟨rfl, hb⟩
  have HA1 := Lib.hid (HA0.out.stays hb (World.block_lt_of_cell? W0 ⟨w.heap.size, 0, none⟩ HA0.out.c0))
  have HR1 := Lib.hid (HR0.out.stays hb (World.block_lt_of_cell? W0 ⟨w.heap.size + 1, 0, none⟩ HR0.out.c0))
  have HB1 := Lib.hid (HB0.out.trans (hb.mono HB0.out.size))
  clear hb HA0 HR0 HB0
  go_wp2_with fail
  refine (CO.out _).mono ?_
  rintro e w2 ⟨rfl, hb⟩
  have HA2 := HA1.out.stays hb (World.block_lt_of_cell? w1 ⟨w.heap.size, 0, none⟩ HA1.out.c0)
  have HR2 := HR1.out.stays hb (World.block_lt_of_cell? w1 ⟨w.heap.size + 1, 0, none⟩ HR1.out.c0)
  have HB2 := Lib.hid (HB1.out.trans (hb.mono HB1.out.size))
  clear hb HA1 HR1 HB1
  obtain ⟨k0, k1, k2, _, _, _⟩ := HA2
  obtain ⟨r0, r1, r2, r3, r4, r5⟩ := HR2
  go_wp2_with fail
  refine wp_region_still_tail 23 (by kernel_rfl) (by kernel_rfl) ?_
  simp only [List.take_succ_cons, List.take_zero, List.drop_succ_cons, List.drop_zero]
  repeat still_step
  still_call (quiet_w (D1.out _))
  repeat still_step
  still_call (quiet_w (D2.out _))
  repeat still_step
  refine wpStill_nil ?_
  clear k0 k1 k2 D1 D2 SI CO m0 m1 m2 m3 m4 m5
  go_wp2_with fail
  refine bodyPost_ret (v := .agg #[.int .i64 P, .int .i64 Q, .int .i64 z]) (by first | (simp [results, Tryz.results74, go_sem]; done) | (simp [results, Tryz.results74, go_sem, *]; done)) rfl ⟨rfl, ?_⟩
  repeat (first | exact Below.refl _ _ | exact HB2.out | refine Below.setCell ?_ (by first | (simp; done) | omega | (simp; omega)) _ | refine Below.alloc ?_ (by first | (simp; done) | omega | (simp; omega)) _ | refine bel_drew ?_)
theorem l04Rotated_any (x y z ax a : Int) (h : inV 2000000 x y z) (hax : ax = 1 ∨ ax = 2 ∨ ax = 3) (a0 : -9223372036854775808 ≤ a) (a1 : a ≤ 9223372036854775807) (w : World) :
    Calls Tryz.prog 74 #[.agg #[.int .i64 x, .int .i64 y, .int .i64 z], .int .i64 ax, .int .i64 a] w fun e w' => e = .returned (.agg #[.int .i64 (roX ax x y z (sinI a) (cosI a)), .int .i64 (roY ax x y z (sinI a) (cosI a)), .int .i64 (roZ ax x y z (sinI a) (cosI a))]) ∧ Below w.heap.size w w' := by
  rcases hax with rfl | rfl | rfl
  · exact l04Rot_1 x y z a h a0 a1 w
  · exact l04Rot_2 x y z a h a0 a1 w
  · exact l04Rot_3 x y z a h a0 a1 w

theorem fin_SRot : True := trivial
end

section
open Go.RowKit
set_option linter.unusedVariables false

theorem nq6_bd (n m : Int) (h0 : 0 ≤ m) (h : -(m * 1000000) ≤ n) (h' : n ≤ m * 1000000) : -m ≤ nearQ n 1000000 ∧ nearQ n 1000000 ≤ m := by
  rcases (show n < 0 ∨ 0 ≤ n by omega) with c | c
  · rw [nearQ_np n 1000000 c (by omega)]; omega
  · rw [nearQ_pp n 1000000 c (by omega)]; omega
theorem nq6_mono {n n' : Int} (h : n ≤ n') : nearQ n 1000000 ≤ nearQ n' 1000000 := by
  rcases (show n < 0 ∨ 0 ≤ n by omega) with c | c
  · rcases (show n' < 0 ∨ 0 ≤ n' by omega) with c' | c'
    · rw [nearQ_np n 1000000 c (by omega), nearQ_np n' 1000000 c' (by omega)]; omega
    · rw [nearQ_np n 1000000 c (by omega), nearQ_pp n' 1000000 c' (by omega)]; omega
  · rw [nearQ_pp n 1000000 c (by omega), nearQ_pp n' 1000000 (by omega) (by omega)]; omega

def dX (lon lat : Int) : Int := nearQ (cosI lat * cosI lon) 1000000
def dY (lon lat : Int) : Int := nearQ (cosI lat * sinI lon) 1000000
theorem dX_bd (lon lat : Int) : -1000000 ≤ dX lon lat ∧ dX lon lat ≤ 1000000 := by
  have p := pr_bd (cosI lat) (cosI lon) 1000000 1000000 (cosI_bd lat).1 (cosI_bd lat).2 (cosI_bd lon).1 (cosI_bd lon).2
  exact nq6_bd _ 1000000 (by omega) (by omega) (by omega)
theorem dY_bd (lon lat : Int) : -1000000 ≤ dY lon lat ∧ dY lon lat ≤ 1000000 := by
  have p := pr_bd (cosI lat) (sinI lon) 1000000 1000000 (cosI_bd lat).1 (cosI_bd lat).2 (sinI_bd lon).1 (sinI_bd lon).2
  exact nq6_bd _ 1000000 (by omega) (by omega) (by omega)
theorem dir_in (lon lat : Int) : inV 1000000 (dX lon lat) (dY lon lat) (sinI lat) := ⟨dX_bd lon lat, dY_bd lon lat, sinI_bd lat⟩
theorem dir_ni (lon lat : Int) : inV 1000000 (sinI lat) (dY lon lat) (dX lon lat) := ⟨sinI_bd lat, dY_bd lon lat, dX_bd lon lat⟩
theorem inV_2 {x y z : Int} (h : inV 1000000 x y z) : inV 2000000 x y z := by
  obtain ⟨⟨a, b⟩, ⟨c, d⟩, e, f⟩ := h
  exact ⟨⟨by omega, by omega⟩, ⟨by omega, by omega⟩, by omega, by omega⟩
theorem okV_in {x y z : Int} (h : inV 2000000 x y z) : okV x y z = true := (okV_bd x y z).2 h
theorem turned_in {x y z s c : Int} (h : inV 1000000 x y z) (hs : -1000000 ≤ s ∧ s ≤ 1000000) (hc : -1000000 ≤ c ∧ c ≤ 1000000) : inV 2000000 (roX 2 x y z s c) (roY 2 x y z s c) (roZ 2 x y z s c) := by
  obtain ⟨⟨a, b⟩, ⟨k, d⟩, e, f⟩ := h
  have p1 := pr_bd x c 1000000 1000000 a b hc.1 hc.2
  have p2 := pr_bd z s 1000000 1000000 e f hs.1 hs.2
  have p3 := pr_bd z c 1000000 1000000 e f hc.1 hc.2
  have p4 := pr_bd x s 1000000 1000000 a b hs.1 hs.2
  have q1 := nq6_bd (x * c + z * s) 2000000 (by omega) (by omega) (by omega)
  have q2 := nq6_bd (z * c - x * s) 2000000 (by omega) (by omega) (by omega)
  have e1 : roX 2 x y z s c = nearQ (x * c + z * s) 1000000 := rfl
  have e2 : roY 2 x y z s c = y := rfl
  have e3 : roZ 2 x y z s c = nearQ (z * c - x * s) 1000000 := rfl
  rw [e1, e2, e3]
  exact ⟨⟨by omega, by omega⟩, ⟨by omega, by omega⟩, by omega, by omega⟩

/-- The direction of a star over a site: to the north, the east and the zenith. -/
def hoP (phi lon d : Int) : Int := roZ 2 (dX lon d) (dY lon d) (sinI d) (sinI phi) (cosI phi)
def hoQ (phi lon d : Int) : Int := roY 2 (dX lon d) (dY lon d) (sinI d) (sinI phi) (cosI phi)
def hoR (phi lon d : Int) : Int := roX 2 (dX lon d) (dY lon d) (sinI d) (sinI phi) (cosI phi)
theorem ho_in (phi lon d : Int) : inV 2000000 (hoR phi lon d) (hoQ phi lon d) (hoP phi lon d) := turned_in (dir_in lon d) (sinI_bd phi) (cosI_bd phi)
theorem ho_ni (phi lon d : Int) : inV 2000000 (hoP phi lon d) (hoQ phi lon d) (hoR phi lon d) := ⟨(ho_in phi lon d).2.2, (ho_in phi lon d).2.1, (ho_in phi lon d).1⟩
/-- And back. -/
def baX (phi az al : Int) : Int := roX 2 (sinI al) (dY az al) (dX az al) (sinI (-phi)) (cosI (-phi))
def baY (phi az al : Int) : Int := roY 2 (sinI al) (dY az al) (dX az al) (sinI (-phi)) (cosI (-phi))
def baZ (phi az al : Int) : Int := roZ 2 (sinI al) (dY az al) (dX az al) (sinI (-phi)) (cosI (-phi))
theorem ba_in (phi az al : Int) : inV 2000000 (baX phi az al) (baY phi az al) (baZ phi az al) := turned_in (dir_ni az al) (sinI_bd _) (cosI_bd _)

theorem cosI_up (d : Int) (h0 : -90000 ≤ d) (h1 : d ≤ 90000) : 0 ≤ cosI d := by
  rcases (show d < 0 ∨ 0 ≤ d by omega) with c | c
  · have e : cosI d = cosI (-d) := by
      have := cosI_even (-d) (by omega) (by omega)
      rw [Int.neg_neg] at this
      exact this
    rw [e, cosI_1 (-d) (by omega) (by omega)]
    exact (qs_bd _ (by omega) (by omega)).1
  · rw [cosI_1 d c h1]
    exact (qs_bd _ (by omega) (by omega)).1
def pHo (phi d : Int) (i : Nat) : Bool := decide (hoR phi (-(i : Int)) d ≤ 0)
theorem hoR_anti (phi d : Int) (p0 : -90000 ≤ phi) (p1 : phi ≤ 90000) (d0 : -90000 ≤ d) (d1 : d ≤ 90000) {a b : Nat} (h : a ≤ b) (hb : b ≤ 180000) : hoR phi (-(b : Int)) d ≤ hoR phi (-(a : Int)) d := by
  have e : ∀ i : Nat, i ≤ 180000 → hoR phi (-(i : Int)) d = nearQ (nearQ (cosI d * cosI (i : Int)) 1000000 * cosI phi + sinI d * sinI phi) 1000000 := by
    intro i hi
    show nearQ (dX (-(i : Int)) d * cosI phi + sinI d * sinI phi) 1000000 = _
    unfold dX
    rw [cosI_even (i : Int) (by omega) (by omega)]
  rw [e b hb, e a (by omega)]
  have k := cosI_anti (a := (a : Int)) (b := (b : Int)) (by omega) (by omega) (by omega)
  have k1 := nq6_mono (Int.mul_le_mul_of_nonneg_left k (cosI_up d d0 d1))
  have k2 := Int.mul_le_mul_of_nonneg_right k1 (cosI_up phi p0 p1)
  exact nq6_mono (by omega)
theorem pHo_mono (phi d : Int) (p0 : -90000 ≤ phi) (p1 : phi ≤ 90000) (d0 : -90000 ≤ d) (d1 : d ≤ 90000) : ∀ a b, a ≤ b → b < 180000 → pHo phi d a = true → pHo phi d b = true := by
  intro a b h hb ha
  have k := hoR_anti phi d p0 p1 d0 d1 h (by omega)
  unfold pHo at ha ⊢
  simp only [decide_eq_true_eq] at ha ⊢
  omega
/-- The hour angle at which a star sets. -/
def setN (phi d : Int) : Nat := cnt 180000 (pHo phi d)
theorem setN_le (phi d : Int) : setN phi d ≤ 180000 := cnt_le _ _
theorem setN_iff (phi d : Int) (p0 : -90000 ≤ phi) (p1 : phi ≤ 90000) (d0 : -90000 ≤ d) (d1 : d ≤ 90000) (m : Nat) (h : m < 180000) : hoR phi (-(m : Int)) d ≤ 0 ↔ setN phi d ≤ m := by
  have := cnt_iff 180000 (pHo phi d) (pHo_mono phi d p0 p1 d0 d1) m h
  unfold setN
  rw [← this]
  unfold pHo
  simp
def risesB (phi d : Int) : Bool := decide (0 < hoR phi 0 d) && decide (hoR phi (-180000) d ≤ 0)
theorem fin_HorM : True := trivial
end

section
open Go.RowKit
set_option linter.unusedVariables false

theorem keepR3 {w W W' : World} {g r : Nat} {x y z : Int} (k : C3 W g x y z ∧ C3 W r 0 0 0 ∧ Below w.heap.size w W) (hb : Below W.heap.size W W') : C3 W' g x y z ∧ C3 W' r 0 0 0 ∧ Below w.heap.size w W' :=
  ⟨k.1.stays hb (World.block_lt_of_cell? W ⟨g, 0, none⟩ k.1.c0), k.2.1.stays hb (World.block_lt_of_cell? W ⟨r, 0, none⟩ k.2.1.c0), k.2.2.trans (hb.mono k.2.2.size)⟩
theorem flatR3 {w W : World} {g r : Nat} {x y z : Int} (k : C3 W g x y z ∧ C3 W r 0 0 0 ∧ Below w.heap.size w W) : W.cell? ⟨g, 0, none⟩ = some (.int .i64 x) ∧ W.cell? ⟨g, 1, none⟩ = some (.int .i64 y) ∧ W.cell? ⟨g, 2, none⟩ = some (.int .i64 z) ∧ Below w.heap.size w W := ⟨k.1.c0, k.1.c1, k.1.c2, k.2.2⟩
theorem flatR3s {w W : World} {x y z : Int} {u v s : Value} (k : C3 W w.heap.size x y z ∧ C3 W (w.heap.size + 1) 0 0 0 ∧ Below w.heap.size w W) :
    (((W.setCell ⟨w.heap.size + 1, 0, none⟩ u).setCell ⟨w.heap.size + 1, 1, none⟩ v).setCell ⟨w.heap.size + 1, 2, none⟩ s).cell? ⟨w.heap.size, 0, none⟩ = some (.int .i64 x) ∧ (((W.setCell ⟨w.heap.size + 1, 0, none⟩ u).setCell ⟨w.heap.size + 1, 1, none⟩ v).setCell ⟨w.heap.size + 1, 2, none⟩ s).cell? ⟨w.heap.size, 1, none⟩ = some (.int .i64 y) ∧ (((W.setCell ⟨w.heap.size + 1, 0, none⟩ u).setCell ⟨w.heap.size + 1, 1, none⟩ v).setCell ⟨w.heap.size + 1, 2, none⟩ s).cell? ⟨w.heap.size, 2, none⟩ = some (.int .i64 z) ∧
    Below w.heap.size w (((W.setCell ⟨w.heap.size + 1, 0, none⟩ u).setCell ⟨w.heap.size + 1, 1, none⟩ v).setCell ⟨w.heap.size + 1, 2, none⟩ s) := by
  have A := ((k.1.other (g' := w.heap.size + 1) (o := 0) (v := u) (by omega)).other (g' := w.heap.size + 1) (o := 1) (v := v) (by omega)).other (g' := w.heap.size + 1) (o := 2) (v := s) (by omega)
  exact ⟨A.c0, A.c1, A.c2, ((k.2.2.setCell (by simp) _).setCell (by simp) _).setCell (by simp) _⟩

set_option maxHeartbeats 4000000 in
/-- RotateAround where the map has a function for the axis. -/
theorem implRot_at (x y z ax a p q t : Int) (f : Nat) (eg : ∀ args w, (callFunc f args).run Tryz.prog w = .ok (.enter f args) w) (a0 : -9223372036854775808 ≤ a) (a1 : a ≤ 9223372036854775807) (ho : okV x y z = true)
    (hlk : ∀ (W : World) (g : Nat), W.heap[g]? = some (.map (ents 3) 3) → (Instr.lookup 147 (.map (some g)) (.int .i64 ax) true).run Tryz.prog W = .ok (.tuple #[.func (.func f) #[] #[], .bool true]) W)
    (hf : ∀ W, Calls Tryz.prog f #[.agg #[.int .i64 x, .int .i64 y, .int .i64 z], .agg #[.int .i64 (sinI a), .int .i64 (cosI a)]] W fun e w' => e = .returned (.agg #[.int .i64 p, .int .i64 q, .int .i64 t]) ∧ Below W.heap.size W w') (w : World) (hs : SinesOK w) :
    Calls Tryz.prog 81 #[.agg #[.int .i64 x, .int .i64 y, .int .i64 z], .int .i64 ax, .int .i64 a] w fun e w' => e = .returned (doneV p q t) ∧ Below w.heap.size w w' := by
  have I := Lib.hid (fun w => validV_any x y z w)
  rw [ho] at I
  have E := Lib.hid hs
  have TB := Lib.hid (fun w hs => turnBy_any a ⟨a0, a1⟩ w hs)
  have HF := Lib.hid hf
  have HL := Lib.hid hlk
  have V := Lib.hid (fun w => validResult_any p q t w)
  have AT := Lib.hid (fun w => axisTurns_any w)
  obtain ⟨n0, n1, n2, nd, hd⟩ := doneV_form p q t
  rw [hd] at V ⊢
  clear hd ho hs hf hlk
  generalize sinI a = s at *
  generalize cosI a = c at *
  obtain ⟨W0, hW0⟩ : ∃ W0, W0 = (w.alloc (.cells #[.int .i64 x, .int .i64 y, .int .i64 z] 71)).alloc (.cells #[.int .i64 0, .int .i64 0, .int .i64 0] 71) := ⟨_, rfl⟩
  have K0 : Hid (C3 W0 w.heap.size x y z ∧ C3 W0 (w.heap.size + 1) 0 0 0 ∧ Below w.heap.size w W0) := Lib.hid (by
    refine ⟨?_, ?_, ?_⟩
    · rw [hW0]; exact (C3.new _ _ _ _ _).alloc (by simp) _
    · rw [hW0]; simpa using C3.new (w.alloc (.cells #[.int .i64 x, .int .i64 y, .int .i64 z] 71)) 71 0 0 0
    · rw [hW0]; exact ((Below.refl _ _).alloc (Nat.le_refl _) _).alloc (by simp) _)
  have HW := Lib.hid hW0
  clear hW0
  obtain ⟨k0, k1, k2, _⟩ := flatR3 K0.out
  go_enter Tryz.func81, Tryz.ntmps81
  go_wp2_with fail
  rw [← HW.out]
  clear HW
  refine (I.out _).mono ?_
  rintro e w1 ⟨rfl, hb⟩
  have K1 := Lib.hid (keepR3 K0.out hb)
  clear hb K0 k0 k1 k2
  go_wp2_with fail
  refine (AT.out _).mono ?_
  rintro e w2 ⟨rfl, rfl⟩
  have lk := HL.out (w1.alloc (.map (ents 3) 3)) w1.heap.size (by show (w1.heap.push _)[w1.heap.size]? = _; simp)
  have K2 := Lib.hid (keepR3 K1.out ((Below.refl _ w1).alloc (Nat.le_refl _) (.map (ents 3) 3)))
  clear K1 HL
  generalize w1.alloc (.map (ents 3) 3) = W2 at *
  go_wp2_with fail
  clear lk
  obtain ⟨k0, k1, k2, k3⟩ := flatR3 K2.out
  have ED := Lib.hid (SinesOK.below E.out (bel_drew k3))
  clear k3
  go_region_held3 (fun w' => w'.cell? ⟨w.heap.size, 0, none⟩ = some (.int .i64 x) ∧ w'.cell? ⟨w.heap.size, 1, none⟩ = some (.int .i64 y) ∧ w'.cell? ⟨w.heap.size, 2, none⟩ = some (.int .i64 z) ∧ Below w.heap.size w w') (first | (exact flatR3 (keepR3 K2.out (bel_drew (Below.refl _ _)))) | (exact flatR3 (keepR3 K2.out y4)) | (exact flatR3 (keepR3 K2.out y3)) | (exact flatR3 (keepR3 K2.out y2)) | (exact flatR3s (keepR3 K2.out y4)) | go_keep) ((first
    | (go_at_call 127; refine (TB.out _ ED.out).mono ?_; rintro e x2 ⟨rfl, hx2⟩; have y2 := undrewV hx2)
    | (go_at_call 126; refine (V.out _).mono ?_; rintro e x4 ⟨rfl, hx4⟩; have y4 := y3.trans (hx4.mono y3.size); have rr := (keepR3 K2.out y4).2.1; obtain ⟨r0, r1, r2, r3, r4, r5⟩ := rr)
    | (go_at_fn f; refine (HF.out _).mono ?_; rintro e x3 ⟨rfl, hx3⟩; have y3 := y2.trans (hx3.mono y2.size))))
  rename_i held
  have HB := Lib.hid held.2.2.2
  clear held
  go_wp2_with fail
  refine bodyPost_ret (v := .tuple #[.agg #[.int .i64 n0, .int .i64 n1, .int .i64 n2], .int .i64 nd]) (by first | (simp [results, Tryz.results81, go_sem]; done) | (simp [results, Tryz.results81, go_sem, *]; done)) rfl ⟨rfl, ?_⟩
  repeat (first | exact Below.refl _ _ | exact HB.out | refine Below.setCell ?_ (by first | (simp; done) | omega | (simp; omega)) _ | refine Below.alloc ?_ (by first | (simp; done) | omega | (simp; omega)) _ | refine bel_drew ?_)

set_option maxHeartbeats 2000000 in
theorem implRot_any (x y z ax a : Int) (a0 : -9223372036854775808 ≤ a) (a1 : a ≤ 9223372036854775807) (w : World) (hs : SinesOK w) :
    Calls Tryz.prog 81 #[.agg #[.int .i64 x, .int .i64 y, .int .i64 z], .int .i64 ax, .int .i64 a] w fun e w' => e = .returned (rotV x y z ax a) ∧ Below w.heap.size w w' := by
  unfold rotV
  cases ho : okV x y z with
  | false =>
    rw [if_neg (by simp)]
    have I := Lib.hid (fun w => validV_any x y z w)
    rw [ho] at I
    clear ho hs
    go_enter Tryz.func81, Tryz.ntmps81
    go_wp2_with fail
    refine (I.out _).mono ?_
    rintro e w1 ⟨rfl, hb⟩
    have hsw1 := hb.size
    try simp at hsw1
    obtain ⟨hcw1, hfw1⟩ := bcell hb
    have HBw1 : Hid (Below w.heap.size w w1) := by
      apply Lib.hid
      refine Below.trans ?_ (hb.mono ?_)
      · repeat (first | exact Below.refl _ _ | refine Below.setCell ?_ (by first | (simp; done) | omega | (simp; omega)) _ | refine Below.alloc ?_ (by first | (simp; done) | omega | (simp; omega)) _)
      · first | (simp; done) | omega | (simp; omega)
    have hzw1 : w.heap.size + 1 < w1.heap.size := by have := hb.size; (try simp at this); omega
    have hyw1 : w.heap.size < w1.heap.size := by have := hb.size; (try simp at this); omega
    clear hb
    go_wp2_with fail
    refine bodyPost_ret (v := .tuple #[.agg #[.int .i64 0, .int .i64 0, .int .i64 0], .int .i64 1]) (by first | (simp [results, Tryz.results81, go_sem]; done) | (simp [results, Tryz.results81, go_sem, *]; done)) rfl ⟨rfl, ?_⟩
    repeat (first | exact Below.refl _ _ | exact HBw1.out | refine Below.setCell ?_ (by first | (simp; done) | omega | (simp; omega)) _ | refine Below.alloc ?_ (by first | (simp; done) | omega | (simp; omega)) _ | refine bel_drew ?_)
  | true =>
    rw [if_pos rfl]
    have hv := inV_ok _ _ _ ho
    have s01 := sinI_bd a
    have c01 := cosI_bd a
    by_cases h1 : ax = 1
    · subst h1
      rw [if_pos (by decide)]
      exact implRot_at x y z 1 a _ _ _ 149 (enters_of Tryz.func149 (by kernel_rfl) rfl) a0 a1 ho (fun W g hb => look_at W g hb 1 _ 0 find_1) (fun W => aroundX_any (sinI a) (cosI a) x y z s01 c01 hv W) w hs
    · by_cases h2 : ax = 2
      · subst h2
        rw [if_pos (by decide)]
        have e1 : roX 2 x y z (sinI a) (cosI a) = nearQ (z * sinI a + x * cosI a) 1000000 := by unfold roX; rw [if_neg (by decide), if_pos rfl, Int.add_comm]
        rw [e1]
        exact implRot_at x y z 2 a _ _ _ 150 (enters_of Tryz.func150 (by kernel_rfl) rfl) a0 a1 ho (fun W g hb => look_at W g hb 2 _ 1 find_2) (fun W => aroundY_any (sinI a) (cosI a) x y z s01 c01 hv W) w hs
      · by_cases h3 : ax = 3
        · subst h3
          rw [if_pos (by decide)]
          exact implRot_at x y z 3 a _ _ _ 151 (enters_of Tryz.func151 (by kernel_rfl) rfl) a0 a1 ho (fun W g hb => look_at W g hb 3 _ 2 find_3) (fun W => aroundZ_any (sinI a) (cosI a) x y z s01 c01 hv W) w hs
        · rw [if_neg (by rw [inR_1]; omega)]
          have I := Lib.hid (fun w => validV_any x y z w)
          rw [ho] at I
          have AT := Lib.hid (fun w => axisTurns_any w)
          have HL := Lib.hid (fun (W : World) (g : Nat) hb => look_none W g hb ax (find_none ax h1 h2 h3))
          clear ho hs hv s01 c01
          go_enter Tryz.func81, Tryz.ntmps81
          go_wp2_with fail
          refine (I.out _).mono ?_
          rintro e w1 ⟨rfl, hb⟩
          have A1 := ((C3.new w 71 x y z).alloc (by simp) (.cells #[.int .i64 0, .int .i64 0, .int .i64 0] 71)).stays hb (by simp; omega)
          have R1 := (by simpa using C3.new (w.alloc (.cells #[.int .i64 x, .int .i64 y, .int .i64 z] 71)) 71 0 0 0 : C3 _ (w.heap.size + 1) 0 0 0).stays hb (by simp)
          have HB1 : Below w.heap.size w w1 := Below.trans (by repeat (first | exact Below.refl _ _ | refine Below.alloc ?_ (by first | (simp; done) | omega | (simp; omega)) _)) (hb.mono (by simp; omega))
          have K1 := Lib.hid (show C3 w1 w.heap.size x y z ∧ C3 w1 (w.heap.size + 1) 0 0 0 ∧ Below w.heap.size w w1 from ⟨A1, R1, HB1⟩)
          clear hb A1 R1 HB1
          go_wp2_with fail
          refine (AT.out _).mono ?_
          rintro e w2 ⟨rfl, rfl⟩
          have lk := HL.out (w1.alloc (.map (ents 3) 3)) w1.heap.size (by show (w1.heap.push _)[w1.heap.size]? = _; simp)
          have K2 := Lib.hid (keepR3 K1.out ((Below.refl _ w1).alloc (Nat.le_refl _) (.map (ents 3) 3)))
          clear K1 HL
          generalize w1.alloc (.map (ents 3) 3) = W2 at *
          obtain ⟨r0, r1, r2, r3, r4, r5⟩ := K2.out.2.1
          have HB := Lib.hid K2.out.2.2
          go_wp2_with fail
          refine bodyPost_ret (v := .tuple #[.agg #[.int .i64 0, .int .i64 0, .int .i64 0], .int .i64 2]) (by first | (simp [results, Tryz.results81, go_sem]; done) | (simp [results, Tryz.results81, go_sem, *]; done)) rfl ⟨rfl, ?_⟩
          repeat (first | exact Below.refl _ _ | exact HB.out | refine Below.setCell ?_ (by first | (simp; done) | omega | (simp; omega)) _ | refine Below.alloc ?_ (by first | (simp; done) | omega | (simp; omega)) _ | refine bel_drew ?_)
theorem fin_RotI : True := trivial
end

section
open Go.RowKit
set_option linter.unusedVariables false

set_option maxRecDepth 100000 in
set_option maxHeartbeats 1000000 in
theorem l04Angles_00 (x y z : Int) (h : inV 2000000 x y z) (cx : x = 0) (cy : y = 0) (w : World) :
    Calls Tryz.prog 47 #[.agg #[.int .i64 x, .int .i64 y, .int .i64 z]] w fun e w' => e = .returned (.tuple #[.int .i64 (lonI x y), .int .i64 (latI x y z)]) ∧ Below w.heap.size w w' := by
  obtain ⟨⟨x0, x1⟩, ⟨y0, y1⟩, z0, z1⟩ := h
  have p1 := sq_bd x 2000000 x0 x1
  have p2 := sq_bd y 2000000 y0 y1
  have R := Lib.hid (fun w => l01RootI_any (x * x + y * y) w (by omega))
  have r0 := rootI_nonneg (x * x + y * y)
  have r1 := rootI_le (x * x + y * y) 4000000 (by omega) (by omega)
  have D := Lib.hid (fun w => l02Arc_any z (rootI (x * x + y * y)) (by omega) (by omega) (by omega) (by omega) w)
  have db := dirI_bd z (rootI (x * x + y * y))
  have m1 : IntKind.i64.wrap (x * x) = x * x := IntWalk.i64_in _ (by omega)
  have m2 : IntKind.i64.wrap (y * y) = y * y := IntWalk.i64_in _ (by omega)
  have m3 : IntKind.i64.wrap (x * x + y * y) = x * x + y * y := IntWalk.i64_in _ (by omega)
  have elo : lonI x y = 0 := by unfold lonI; rw [if_pos ⟨cx, cy⟩]
  rw [elo]
  clear elo
  unfold latI
  obtain ⟨q, hq⟩ : ∃ q : Int, q = if 90000 < dirI z (rootI (x * x + y * y)) then dirI z (rootI (x * x + y * y)) - 360000 else dirI z (rootI (x * x + y * y)) := ⟨_, rfl⟩
  rw [← hq]
  have HQ := Lib.hid hq
  clear hq
  generalize dirI z (rootI (x * x + y * y)) = d at *
  generalize rootI (x * x + y * y) = r at *
  obtain ⟨W1, hW1⟩ : ∃ W1, W1 = w.alloc (.cells #[.int .i64 x, .int .i64 y, .int .i64 z] 71) := ⟨_, rfl⟩
  have HB1 : Below w.heap.size w W1 := by rw [hW1]; exact (Below.refl _ _).alloc (Nat.le_refl _) _
  have A : C3 W1 w.heap.size x y z := by rw [hW1]; exact C3.new _ _ _ _ _
  have HW := Lib.hid hW1
  have HB := Lib.hid HB1
  clear hW1 HB1 p1 p2
  obtain ⟨a0, a1, a2, _, _, _⟩ := A
  have hx : (x != 0) = false := by simp [cx]
  have hy : (y != 0) = false := by simp [cy]
  clear cx cy
  go_enter Tryz.func47, Tryz.ntmps47
  go_upto_region 2 with fail
  rw [← HW.out]
  clear HW
  go_wp2_with fail
  refine wp_region_still_tail 14 (by kernel_rfl) (by kernel_rfl) ?_
  simp only [List.take_succ_cons, List.take_zero, List.drop_succ_cons, List.drop_zero]
  clear x0 x1 y0 y1 z0 z1
  repeat still_step
  still_call (quiet_w (R.out _))
  repeat still_step
  refine wpStill_nil ?_
  clear a0 a1 a2
  by_cases hd : 90000 < d
  · go_wp2_with fail
    refine (D.out _).mono ?_
    rintro e w1 ⟨rfl, hb⟩
    have HB2 := Lib.hid (HB.out.trans ((show Below W1.heap.size W1 w1 from ⟨hb.os, hb.tape, hb.output, hb.size, hb.block⟩).mono HB.out.size))
    clear hb
    go_wp2_with fail
    go_ret2
    exact ⟨by rw [HQ.out, if_pos hd]; rfl, HB2.out⟩
  · go_wp2_with fail
    refine (D.out _).mono ?_
    rintro e w1 ⟨rfl, hb⟩
    have HB2 := Lib.hid (HB.out.trans ((show Below W1.heap.size W1 w1 from ⟨hb.os, hb.tape, hb.output, hb.size, hb.block⟩).mono HB.out.size))
    clear hb
    go_wp2_with fail
    go_ret2
    exact ⟨by rw [HQ.out, if_neg (show ¬ 90000 < d by omega)]; rfl, HB2.out⟩
set_option maxRecDepth 100000 in
set_option maxHeartbeats 1000000 in
theorem l04Angles_0y (x y z : Int) (h : inV 2000000 x y z) (cx : x = 0) (cy : ¬ y = 0) (w : World) :
    Calls Tryz.prog 47 #[.agg #[.int .i64 x, .int .i64 y, .int .i64 z]] w fun e w' => e = .returned (.tuple #[.int .i64 (lonI x y), .int .i64 (latI x y z)]) ∧ Below w.heap.size w w' := by
  obtain ⟨⟨x0, x1⟩, ⟨y0, y1⟩, z0, z1⟩ := h
  have p1 := sq_bd x 2000000 x0 x1
  have p2 := sq_bd y 2000000 y0 y1
  have R := Lib.hid (fun w => l01RootI_any (x * x + y * y) w (by omega))
  have r0 := rootI_nonneg (x * x + y * y)
  have r1 := rootI_le (x * x + y * y) 4000000 (by omega) (by omega)
  have D := Lib.hid (fun w => l02Arc_any z (rootI (x * x + y * y)) (by omega) (by omega) (by omega) (by omega) w)
  have db := dirI_bd z (rootI (x * x + y * y))
  have m1 : IntKind.i64.wrap (x * x) = x * x := IntWalk.i64_in _ (by omega)
  have m2 : IntKind.i64.wrap (y * y) = y * y := IntWalk.i64_in _ (by omega)
  have m3 : IntKind.i64.wrap (x * x + y * y) = x * x + y * y := IntWalk.i64_in _ (by omega)
  have L := Lib.hid (fun w => l02Arc_any y x (by omega) (by omega) (by omega) (by omega) w)
  have elo : lonI x y = dirI y x := by unfold lonI; rw [if_neg (by omega)]
  rw [elo]
  generalize dirI y x = lo at *
  clear elo
  unfold latI
  obtain ⟨q, hq⟩ : ∃ q : Int, q = if 90000 < dirI z (rootI (x * x + y * y)) then dirI z (rootI (x * x + y * y)) - 360000 else dirI z (rootI (x * x + y * y)) := ⟨_, rfl⟩
  rw [← hq]
  have HQ := Lib.hid hq
  clear hq
  generalize dirI z (rootI (x * x + y * y)) = d at *
  generalize rootI (x * x + y * y) = r at *
  obtain ⟨W1, hW1⟩ : ∃ W1, W1 = w.alloc (.cells #[.int .i64 x, .int .i64 y, .int .i64 z] 71) := ⟨_, rfl⟩
  have HB1 : Below w.heap.size w W1 := by rw [hW1]; exact (Below.refl _ _).alloc (Nat.le_refl _) _
  have A : C3 W1 w.heap.size x y z := by rw [hW1]; exact C3.new _ _ _ _ _
  have HW := Lib.hid hW1
  clear hW1 p1 p2
  obtain ⟨b0, b1, b2, _, _, _⟩ := A
  have A := Lib.hid (show W1.cell? ⟨w.heap.size, 0, none⟩ = some (.int .i64 x) ∧ W1.cell? ⟨w.heap.size, 1, none⟩ = some (.int .i64 y) ∧ W1.cell? ⟨w.heap.size, 2, none⟩ = some (.int .i64 z) ∧ Below w.heap.size w W1 from ⟨b0, b1, b2, HB1⟩)
  clear HB1
  have hx : (x != 0) = false := by simp [cx]
  have hy : (y != 0) = true := by simp [cy]
  clear cx cy
  go_enter Tryz.func47, Tryz.ntmps47
  go_upto_region 2 with fail
  rw [← HW.out]
  clear HW
  go_wp2_with fail
  refine (L.out _).mono ?_
  rintro e u1 ⟨rfl, hb⟩
  have K := Lib.hid (keepV1 A.out hb)
  clear hb b0 b1 b2
  obtain ⟨a0, a1, a2, a3⟩ := K.out
  have HB := Lib.hid a3
  clear a3
  go_wp2_with fail
  refine wp_region_still_tail 14 (by kernel_rfl) (by kernel_rfl) ?_
  simp only [List.take_succ_cons, List.take_zero, List.drop_succ_cons, List.drop_zero]
  clear x0 x1 y0 y1 z0 z1
  repeat still_step
  still_call (quiet_w (R.out _))
  repeat still_step
  refine wpStill_nil ?_
  clear a0 a1 a2
  by_cases hd : 90000 < d
  · go_wp2_with fail
    refine (D.out _).mono ?_
    rintro e w1 ⟨rfl, hb⟩
    have HB2 := Lib.hid (HB.out.trans ((show Below u1.heap.size u1 w1 from ⟨hb.os, hb.tape, hb.output, hb.size, hb.block⟩).mono HB.out.size))
    clear hb
    go_wp2_with fail
    go_ret2
    exact ⟨by rw [HQ.out, if_pos hd]; rfl, HB2.out⟩
  · go_wp2_with fail
    refine (D.out _).mono ?_
    rintro e w1 ⟨rfl, hb⟩
    have HB2 := Lib.hid (HB.out.trans ((show Below u1.heap.size u1 w1 from ⟨hb.os, hb.tape, hb.output, hb.size, hb.block⟩).mono HB.out.size))
    clear hb
    go_wp2_with fail
    go_ret2
    exact ⟨by rw [HQ.out, if_neg (show ¬ 90000 < d by omega)]; rfl, HB2.out⟩
set_option maxRecDepth 100000 in
set_option maxHeartbeats 1000000 in
theorem l04Angles_x (x y z : Int) (h : inV 2000000 x y z) (cx : ¬ x = 0) (w : World) :
    Calls Tryz.prog 47 #[.agg #[.int .i64 x, .int .i64 y, .int .i64 z]] w fun e w' => e = .returned (.tuple #[.int .i64 (lonI x y), .int .i64 (latI x y z)]) ∧ Below w.heap.size w w' := by
  obtain ⟨⟨x0, x1⟩, ⟨y0, y1⟩, z0, z1⟩ := h
  have p1 := sq_bd x 2000000 x0 x1
  have p2 := sq_bd y 2000000 y0 y1
  have R := Lib.hid (fun w => l01RootI_any (x * x + y * y) w (by omega))
  have r0 := rootI_nonneg (x * x + y * y)
  have r1 := rootI_le (x * x + y * y) 4000000 (by omega) (by omega)
  have D := Lib.hid (fun w => l02Arc_any z (rootI (x * x + y * y)) (by omega) (by omega) (by omega) (by omega) w)
  have db := dirI_bd z (rootI (x * x + y * y))
  have m1 : IntKind.i64.wrap (x * x) = x * x := IntWalk.i64_in _ (by omega)
  have m2 : IntKind.i64.wrap (y * y) = y * y := IntWalk.i64_in _ (by omega)
  have m3 : IntKind.i64.wrap (x * x + y * y) = x * x + y * y := IntWalk.i64_in _ (by omega)
  have L := Lib.hid (fun w => l02Arc_any y x (by omega) (by omega) (by omega) (by omega) w)
  have elo : lonI x y = dirI y x := by unfold lonI; rw [if_neg (by omega)]
  rw [elo]
  generalize dirI y x = lo at *
  clear elo
  unfold latI
  obtain ⟨q, hq⟩ : ∃ q : Int, q = if 90000 < dirI z (rootI (x * x + y * y)) then dirI z (rootI (x * x + y * y)) - 360000 else dirI z (rootI (x * x + y * y)) := ⟨_, rfl⟩
  rw [← hq]
  have HQ := Lib.hid hq
  clear hq
  generalize dirI z (rootI (x * x + y * y)) = d at *
  generalize rootI (x * x + y * y) = r at *
  obtain ⟨W1, hW1⟩ : ∃ W1, W1 = w.alloc (.cells #[.int .i64 x, .int .i64 y, .int .i64 z] 71) := ⟨_, rfl⟩
  have HB1 : Below w.heap.size w W1 := by rw [hW1]; exact (Below.refl _ _).alloc (Nat.le_refl _) _
  have A : C3 W1 w.heap.size x y z := by rw [hW1]; exact C3.new _ _ _ _ _
  have HW := Lib.hid hW1
  clear hW1 p1 p2
  obtain ⟨b0, b1, b2, _, _, _⟩ := A
  have A := Lib.hid (show W1.cell? ⟨w.heap.size, 0, none⟩ = some (.int .i64 x) ∧ W1.cell? ⟨w.heap.size, 1, none⟩ = some (.int .i64 y) ∧ W1.cell? ⟨w.heap.size, 2, none⟩ = some (.int .i64 z) ∧ Below w.heap.size w W1 from ⟨b0, b1, b2, HB1⟩)
  clear HB1
  have hx : (x != 0) = true := by simp [cx]
  clear cx
  go_enter Tryz.func47, Tryz.ntmps47
  go_upto_region 2 with fail
  rw [← HW.out]
  clear HW
  go_wp2_with fail
  refine (L.out _).mono ?_
  rintro e u1 ⟨rfl, hb⟩
  have K := Lib.hid (keepV1 A.out hb)
  clear hb b0 b1 b2
  obtain ⟨a0, a1, a2, a3⟩ := K.out
  have HB := Lib.hid a3
  clear a3
  go_wp2_with fail
  refine wp_region_still_tail 14 (by kernel_rfl) (by kernel_rfl) ?_
  simp only [List.take_succ_cons, List.take_zero, List.drop_succ_cons, List.drop_zero]
  clear x0 x1 y0 y1 z0 z1
  repeat still_step
  still_call (quiet_w (R.out _))
  repeat still_step
  refine wpStill_nil ?_
  clear a0 a1 a2
  by_cases hd : 90000 < d
  · go_wp2_with fail
    refine (D.out _).mono ?_
    rintro e w1 ⟨rfl, hb⟩
    have HB2 := Lib.hid (HB.out.trans ((show Below u1.heap.size u1 w1 from ⟨hb.os, hb.tape, hb.output, hb.size, hb.block⟩).mono HB.out.size))
    clear hb
    go_wp2_with fail
    go_ret2
    exact ⟨by rw [HQ.out, if_pos hd]; rfl, HB2.out⟩
  · go_wp2_with fail
    refine (D.out _).mono ?_
    rintro e w1 ⟨rfl, hb⟩
    have HB2 := Lib.hid (HB.out.trans ((show Below u1.heap.size u1 w1 from ⟨hb.os, hb.tape, hb.output, hb.size, hb.block⟩).mono HB.out.size))
    clear hb
    go_wp2_with fail
    go_ret2
    exact ⟨by rw [HQ.out, if_neg (show ¬ 90000 < d by omega)]; rfl, HB2.out⟩
theorem l04Angles_any (x y z : Int) (h : inV 2000000 x y z) (w : World) :
    Calls Tryz.prog 47 #[.agg #[.int .i64 x, .int .i64 y, .int .i64 z]] w fun e w' => e = .returned (.tuple #[.int .i64 (lonI x y), .int .i64 (latI x y z)]) ∧ Below w.heap.size w w' := by
  by_cases cx : x = 0
  · by_cases cy : y = 0
    · exact l04Angles_00 x y z h cx cy w
    · exact l04Angles_0y x y z h cx cy w
  · exact l04Angles_x x y z h cx w
theorem fin_SAng : True := trivial
end

section
open Go.RowKit Go.Joins Go.ChangeShapes Go.WideShapes Go.Deep
set_option linter.unusedVariables false

def SiteOk (s : ByteArray) (a b : Int) : Prop := s.size ≤ maxLen ∧ fits a ∧ fits b
set_option maxRecDepth 100000 in
theorem site_open {H : Type} {enc : TypeId × Value → H} {w : World} {base : Nat} {spare : Nat → Bool} {held : Bool} {r : Reach} {b0 : Nat} {v : Value} {d : DataW H} {p : List MemPlace}
    (hv : Value.okWide Tryz.prog w r b0 23 v) (h : DataW.Trod enc Tryz.prog w base spare held 23 v d p) :
    ∃ (s : ByteArray) (a b : Int), v = .agg #[.string s, .int .i64 a, .int .i64 b] ∧ SiteOk s a b := by
  obtain ⟨v0, v1, v2, y0, y1, y2, n, rfl, _, _, t0, t1, t2⟩ := open_agg3 Tryz.underlying23 (by kernel_rfl) (by kernel_rfl) hv h
  obtain ⟨s, e0, _, g0⟩ := DataW.trod_string Tryz.underlying9 t0
  obtain ⟨a, e1, _, g1⟩ := DataW.trod_int Tryz.underlying2 t1
  obtain ⟨b, e2, _, g2⟩ := DataW.trod_int Tryz.underlying2 t2
  simp only [List.cons.injEq, and_true] at e0 e1 e2
  subst e0 e1 e2
  exact ⟨s, a, b, rfl, g0, wf_fits g1, wf_fits g2⟩

set_option maxHeartbeats 1000000 in
theorem toSite_any (s : ByteArray) (a b : Int) (w : World) :
    Calls Tryz.prog 8 #[.agg #[.string s, .int .i64 a, .int .i64 b]] w fun e w' => e = .returned (.agg #[.string s, .int .i64 a, .int .i64 b]) ∧ Below w.heap.size w w' := by
  go_enter Tryz.func8, Tryz.ntmps8
  go_wp2_with fail
  refine bodyPost_ret (v := .agg #[.string s, .int .i64 a, .int .i64 b]) (by first | (simp [results, Tryz.results8, go_sem]; done) | (simp [results, Tryz.results8, go_sem]; done)) rfl ⟨rfl, ?_⟩
  repeat (first | exact Below.refl _ _ | refine Below.setCell ?_ (by first | (simp; done) | omega | (simp; omega)) _ | refine Below.alloc ?_ (by first | (simp; done) | omega | (simp; omega)) _ | refine bel_drew ?_)
set_option maxHeartbeats 1000000 in
theorem szSite_any (s : ByteArray) (a b l : Int) (h0 : 0 ≤ l) (h1 : l ≤ 1048576) (hmax : s.size ≤ maxLen) (w : World) :
    Calls Tryz.prog 5 #[.agg #[.string s, .int .i64 a, .int .i64 b], .int .i64 l] w fun e w' => e = .returned (.int .i64 (szN s l)) ∧ Below w.heap.size w w' := by
  have hm : s.size ≤ 9223372036854775807 := by unfold maxLen at hmax; omega
  clear hmax
  unfold szN
  by_cases h : l - (s.size : Int) < 0
  · rw [if_pos h]
    go_enter Tryz.func5, Tryz.ntmps5
    go_wp2_with fail
    go_ret
    refine ⟨rfl, ?_⟩
    repeat (first | exact Below.refl _ _ | refine Below.setCell ?_ (by first | (simp; done) | omega | (simp; omega)) _ | refine Below.alloc ?_ (by first | (simp; done) | omega | (simp; omega)) _ | refine bel_drew ?_)
  · rw [if_neg h]
    have h' : decide (l - (s.size : Int) < 0) = false := by simpa using h
    go_enter Tryz.func5, Tryz.ntmps5
    go_wp2_with fail
    go_ret
    refine ⟨rfl, ?_⟩
    repeat (first | exact Below.refl _ _ | refine Below.setCell ?_ (by first | (simp; done) | omega | (simp; omega)) _ | refine Below.alloc ?_ (by first | (simp; done) | omega | (simp; omega)) _ | refine bel_drew ?_)

def siteB (s : ByteArray) (a b : Int) : Bool := nameB s.data.toList && (inR (-180000) 180000 [a] && inR (-90000) 90000 [b])
/-- The code for a site and three angles. -/
def askI (s : ByteArray) (a b sid r d : Int) : Int := if siteB s a b = true then (if (inR 0 359999 [sid] && dirB r d) = true then 0 else 2) else 1

set_option maxHeartbeats 1000000 in
theorem validSite_any (s : ByteArray) (a b : Int) (hmax : s.size ≤ maxLen) (w : World) :
    Calls Tryz.prog 27 #[.agg #[.string s, .int .i64 a, .int .i64 b]] w fun e w' => e = .returned (.bool (siteB s a b)) ∧ Below w.heap.size w w' := by
  unfold siteB
  have hm : s.size ≤ 9223372036854775807 := by unfold maxLen at hmax; omega
  have I1 := Lib.hid (fun w => implName_any s w hm)
  have I3 := Lib.hid (fun w => isElev_any b w)
  clear hm hmax
  generalize nameB s.data.toList = p1 at *
  generalize inR (-90000) 90000 [b] = p3 at *
  cases p1 with
  | false =>
    rw [Bool.false_and]
    go_enter Tryz.func27, Tryz.ntmps27
    go_wp2_with fail
    refine (I1.out _).mono ?_
    rintro e w1 ⟨rfl, hb⟩
    have hsw1 := hb.size
    try simp at hsw1
    obtain ⟨hcw1, hfw1⟩ := bcell hb
    have HBw1 : Hid (Below w.heap.size w w1) := by
      apply Lib.hid
      refine Below.trans ?_ (hb.mono ?_)
      · repeat (first | exact Below.refl _ _ | refine Below.setCell ?_ (by first | (simp; done) | omega | (simp; omega)) _ | refine Below.alloc ?_ (by first | (simp; done) | omega | (simp; omega)) _)
      · first | (simp; done) | omega | (simp; omega)
    have hzw1 : w.heap.size < w1.heap.size := by have := hb.size; (try simp at this); omega
    clear hb
    go_wp2_with fail
    go_ret
    refine ⟨rfl, ?_⟩
    repeat (first | exact Below.refl _ _ | exact HBw1.out | refine Below.setCell ?_ (by first | (simp; done) | omega | (simp; omega)) _ | refine Below.alloc ?_ (by first | (simp; done) | omega | (simp; omega)) _ | refine bel_drew ?_)
  | true =>
    rw [Bool.true_and]
    cases h2 : inR (-180000) 180000 [a] with
    | false =>
      rw [Bool.false_and]
      have H2 := Lib.hid h2
      clear h2
      go_enter Tryz.func27, Tryz.ntmps27
      go_wp2_with fail
      refine (I1.out _).mono ?_
      rintro e w1 ⟨rfl, hb⟩
      have hsw1 := hb.size
      try simp at hsw1
      obtain ⟨hcw1, hfw1⟩ := bcell hb
      have HBw1 : Hid (Below w.heap.size w w1) := by
        apply Lib.hid
        refine Below.trans ?_ (hb.mono ?_)
        · repeat (first | exact Below.refl _ _ | refine Below.setCell ?_ (by first | (simp; done) | omega | (simp; omega)) _ | refine Below.alloc ?_ (by first | (simp; done) | omega | (simp; omega)) _)
        · first | (simp; done) | omega | (simp; omega)
      have hzw1 : w.heap.size < w1.heap.size := by have := hb.size; (try simp at this); omega
      clear hb
      go_wp2_with fail
      refine (within1 _ _ a _ _ _ (by first | (simp; done) | (rw [World.cell?_alloc_at _ _ _ _ (by simp)]; rfl))).mono ?_
      rintro e w' ⟨rfl, rfl⟩
      rw [H2.out]
      go_wp2_with fail
      go_ret
      refine ⟨rfl, ?_⟩
      repeat (first | exact Below.refl _ _ | exact HBw1.out | refine Below.setCell ?_ (by first | (simp; done) | omega | (simp; omega)) _ | refine Below.alloc ?_ (by first | (simp; done) | omega | (simp; omega)) _ | refine bel_drew ?_)
    | true =>
      rw [Bool.true_and]
      have H2 := Lib.hid h2
      clear h2
      go_enter Tryz.func27, Tryz.ntmps27
      go_wp2_with fail
      refine (I1.out _).mono ?_
      rintro e w1 ⟨rfl, hb⟩
      have hsw1 := hb.size
      try simp at hsw1
      obtain ⟨hcw1, hfw1⟩ := bcell hb
      have HBw1 : Hid (Below w.heap.size w w1) := by
        apply Lib.hid
        refine Below.trans ?_ (hb.mono ?_)
        · repeat (first | exact Below.refl _ _ | refine Below.setCell ?_ (by first | (simp; done) | omega | (simp; omega)) _ | refine Below.alloc ?_ (by first | (simp; done) | omega | (simp; omega)) _)
        · first | (simp; done) | omega | (simp; omega)
      have hzw1 : w.heap.size < w1.heap.size := by have := hb.size; (try simp at this); omega
      clear hb
      go_wp2_with fail
      refine (within1 _ _ a _ _ _ (by first | (simp; done) | (rw [World.cell?_alloc_at _ _ _ _ (by simp)]; rfl))).mono ?_
      rintro e w' ⟨rfl, rfl⟩
      rw [H2.out]
      go_wp2_with fail
      refine (I3.out _).mono ?_
      rintro e w2 ⟨rfl, hb⟩
      have hsw2 := hb.size
      try simp at hsw2
      obtain ⟨hcw2, hfw2⟩ := bcell hb
      have HBw2 : Hid (Below w.heap.size w w2) := by
        apply Lib.hid
        refine Below.trans ?_ (hb.mono ?_)
        · repeat (first | exact Below.refl _ _ | exact HBw1.out | refine Below.setCell ?_ (by first | (simp; done) | omega | (simp; omega)) _ | refine Below.alloc ?_ (by first | (simp; done) | omega | (simp; omega)) _)
        · first | (simp; done) | omega | (simp; omega)
      have hzw2 : w.heap.size < w2.heap.size := by have := hb.size; (try simp at this); omega
      clear hb
      first | (have gsw2w1 : w1.heap.size < w2.heap.size := by omega) | skip
      go_wp2_with fail
      go_ret
      refine ⟨rfl, ?_⟩
      repeat (first | exact Below.refl _ _ | exact HBw2.out | refine Below.setCell ?_ (by first | (simp; done) | omega | (simp; omega)) _ | refine Below.alloc ?_ (by first | (simp; done) | omega | (simp; omega)) _ | refine bel_drew ?_)

set_option maxHeartbeats 400000 in
theorem l06Lat_any (a : Int) (w : World) :
    Calls Tryz.prog 23 #[.int .i64 a] w fun e w' => e = .returned (.bool (inR (-90000) 90000 [a])) ∧ w = w' := by
  go_enter Tryz.func23, Tryz.ntmps23
  go_wp2_with fail
  refine (l00In_any _ _ _ _).mono ?_
  rintro e w' ⟨rfl, rfl⟩
  go_wp2_with fail
  go_ret
  exact ⟨rfl, rfl⟩
set_option maxHeartbeats 400000 in
theorem l06Turn_any (a : Int) (w : World) :
    Calls Tryz.prog 22 #[.int .i64 a] w fun e w' => e = .returned (.bool (inR 0 359999 [a])) ∧ w = w' := by
  go_enter Tryz.func22, Tryz.ntmps22
  go_wp2_with fail
  refine (l00In_any _ _ _ _).mono ?_
  rintro e w' ⟨rfl, rfl⟩
  go_wp2_with fail
  go_ret
  exact ⟨rfl, rfl⟩
set_option maxHeartbeats 1000000 in
theorem l06Ok_at (g o : Nat) (s : ByteArray) (a b : Int) (w : World) (c0 : w.cell? ⟨g, o, none⟩ = some (.string s)) (c1 : w.cell? ⟨g, o + 1, none⟩ = some (.int .i64 a)) (c2 : w.cell? ⟨g, o + 2, none⟩ = some (.int .i64 b)) :
    Calls Tryz.prog 20 #[.pointer (some ⟨g, o, none⟩)] w fun e w' => e = .returned (.bool (siteB s a b)) ∧ w = w' := by
  unfold siteB
  have I1 := Lib.hid (fun w => l01Name_any s w)
  have I2 := Lib.hid (fun w => l00In_any a (-180000) 180000 w)
  have I3 := Lib.hid (fun w => l06Lat_any b w)
  generalize nameB s.data.toList = p1 at *
  generalize inR (-180000) 180000 [a] = p2 at *
  generalize inR (-90000) 90000 [b] = p3 at *
  cases p1 with
  | false =>
    rw [Bool.false_and]
    go_enter Tryz.func20, Tryz.ntmps20
    go_wp2_with fail
    refine (I1.out _).mono ?_
    rintro e w' ⟨rfl, rfl⟩
    go_wp2_with fail
    go_ret
    exact ⟨rfl, rfl⟩
  | true =>
    rw [Bool.true_and]
    cases p2 with
    | false =>
      rw [Bool.false_and]
      go_enter Tryz.func20, Tryz.ntmps20
      go_wp2_with fail
      refine (I1.out _).mono ?_
      rintro e w' ⟨rfl, rfl⟩
      go_wp2_with fail
      refine (I2.out _).mono ?_
      rintro e w' ⟨rfl, rfl⟩
      go_wp2_with fail
      go_ret
      exact ⟨rfl, rfl⟩
    | true =>
      rw [Bool.true_and]
      go_enter Tryz.func20, Tryz.ntmps20
      go_wp2_with fail
      refine (I1.out _).mono ?_
      rintro e w' ⟨rfl, rfl⟩
      go_wp2_with fail
      refine (I2.out _).mono ?_
      rintro e w' ⟨rfl, rfl⟩
      go_wp2_with fail
      refine (I3.out _).mono ?_
      rintro e w' ⟨rfl, rfl⟩
      go_wp2_with fail
      go_ret
      exact ⟨rfl, rfl⟩
theorem fin_Site0 : True := trivial
end

section
open Go.RowKit
set_option linter.unusedVariables false

theorem ab_bd6 (x : Int) (h : -1000000 ≤ x) (h' : x ≤ 1000000) : 0 ≤ ab x ∧ ab x ≤ 1000000 := by unfold ab; split <;> omega
theorem ask_0 (s : ByteArray) (a b sid r d : Int) : askI s a b sid r d = 0 ↔ siteB s a b = true ∧ (0 ≤ sid ∧ sid ≤ 359999) ∧ (0 ≤ r ∧ r ≤ 359999) ∧ (-90000 ≤ b ∧ b ≤ 90000) ∧ (-90000 ≤ d ∧ d ≤ 90000) ∧ (-180000 ≤ a ∧ a ≤ 180000) ∧ nameB s.data.toList = true := by
  unfold askI dirB
  constructor
  · intro h
    split at h
    · rename_i hs
      split at h
      · rename_i hd
        simp only [Bool.and_eq_true, inR_1] at hd
        have hs2 := hs
        unfold siteB at hs2
        simp only [Bool.and_eq_true, inR_1] at hs2
        exact ⟨hs, hd.1, hd.2.1, hs2.2.2, hd.2.2, hs2.2.1, hs2.1⟩
      · omega
    · omega
  · rintro ⟨h, h1, h2, h3, h4, h5, h6⟩
    rw [if_pos h, if_pos (by simp only [Bool.and_eq_true, inR_1]; exact ⟨h1, h2, h4⟩)]
theorem ask_codes (s : ByteArray) (a b sid r d : Int) : askI s a b sid r d = 0 ∨ askI s a b sid r d = 1 ∨ askI s a b sid r d = 2 := by
  unfold askI
  split
  · split <;> simp
  · simp

/-- What the greatest and the least altitude of a star are. -/
def culV (s : ByteArray) (a b d : Int) : Value := if askI s a b 0 0 d = 0 then .tuple #[.int .i64 (90000 - ab (b - d)), .int .i64 0] else .tuple #[.int .i64 0, .int .i64 (askI s a b 0 0 d)]
def lowV (s : ByteArray) (a b d : Int) : Value := if askI s a b 0 0 d = 0 then .tuple #[.int .i64 (ab (b + d) - 90000), .int .i64 0] else .tuple #[.int .i64 0, .int .i64 (askI s a b 0 0 d)]
theorem culV_form (s : ByteArray) (a b d : Int) : ∃ p q : Int, culV s a b d = .tuple #[.int .i64 p, .int .i64 q] := by unfold culV; split <;> exact ⟨_, _, rfl⟩
theorem lowV_form (s : ByteArray) (a b d : Int) : ∃ p q : Int, lowV s a b d = .tuple #[.int .i64 p, .int .i64 q] := by unfold lowV; split <;> exact ⟨_, _, rfl⟩
theorem fin_Site1 : True := trivial
end

section
open Go.RowKit
set_option linter.unusedVariables false

theorem rot_ok (x y z a : Int) (h : inV 1000000 x y z) : rotV x y z 2 a = .tuple #[.agg #[.int .i64 (roX 2 x y z (sinI a) (cosI a)), .int .i64 (roY 2 x y z (sinI a) (cosI a)), .int .i64 (roZ 2 x y z (sinI a) (cosI a))], .int .i64 0] := by
  unfold rotV doneV
  rw [if_pos (okV_in (inV_2 h)), if_pos (by decide), if_pos (okV_in (turned_in h (sinI_bd a) (cosI_bd a)))]
theorem dirT_in (lon d : Int) (d0 : -90000 ≤ d) (d1 : d ≤ 90000) : dirT lon d = (dX lon d, dY lon d, sinI d) := by
  unfold dirT
  rw [if_pos ((inR_1 _ _ _).2 ⟨d0, d1⟩)]
  rfl
theorem done_in {x y z : Int} (h : inV 2000000 x y z) : doneV x y z = .tuple #[.agg #[.int .i64 x, .int .i64 y, .int .i64 z], .int .i64 0] := by
  unfold doneV
  rw [if_pos (okV_in h)]
theorem keepA3 {W0 W W' : World} {b0 o0 b1 o1 b2 o2 : Nat} {v0 v1 v2 : Value} (h : W.cell? ⟨b0, o0, none⟩ = some v0 ∧ W.cell? ⟨b1, o1, none⟩ = some v1 ∧ W.cell? ⟨b2, o2, none⟩ = some v2 ∧ Below W0.heap.size W0 W) (hb : Below W.heap.size W W') :
    W'.cell? ⟨b0, o0, none⟩ = some v0 ∧ W'.cell? ⟨b1, o1, none⟩ = some v1 ∧ W'.cell? ⟨b2, o2, none⟩ = some v2 ∧ Below W0.heap.size W0 W' := by
  obtain ⟨h0, h1, h2, h3⟩ := h
  have l0 := World.block_lt_of_cell? W ⟨b0, o0, none⟩ h0
  have l1 := World.block_lt_of_cell? W ⟨b1, o1, none⟩ h1
  have l2 := World.block_lt_of_cell? W ⟨b2, o2, none⟩ h2
  obtain ⟨k, _⟩ := bcell hb
  exact ⟨(k _ _ l0).trans h0, (k _ _ l1).trans h1, (k _ _ l2).trans h2, h3.trans (hb.mono h3.size)⟩

set_option maxHeartbeats 400000 in
theorem exch_any (x y z : Int) (w : World) :
    Calls Tryz.prog 83 #[.agg #[.int .i64 x, .int .i64 y, .int .i64 z]] w fun e w' => e = .returned (.agg #[.int .i64 z, .int .i64 y, .int .i64 x]) ∧ Below w.heap.size w w' := by
  go_enter Tryz.func83, Tryz.ntmps83
  go_wp2_with fail
  refine bodyPost_ret (v := .agg #[.int .i64 z, .int .i64 y, .int .i64 x]) (by first | (simp [results, Tryz.results83, go_sem]; done) | (simp [results, Tryz.results83, go_sem]; done)) rfl ⟨rfl, ?_⟩
  repeat (first | exact Below.refl _ _ | refine Below.setCell ?_ (by first | (simp; done) | omega | (simp; omega)) _ | refine Below.alloc ?_ (by first | (simp; done) | omega | (simp; omega)) _ | refine bel_drew ?_)

set_option maxHeartbeats 1000000 in
theorem l06Vector_any (phi sid r d : Int) (p0 : -90000 ≤ phi) (p1 : phi ≤ 90000) (s0 : 0 ≤ sid) (s1 : sid ≤ 360000) (r0 : 0 ≤ r) (r1 : r ≤ 360000) (d0 : -90000 ≤ d) (d1 : d ≤ 90000) (w : World) :
    Calls Tryz.prog 48 #[.int .i64 phi, .int .i64 sid, .int .i64 r, .int .i64 d] w fun e w' => e = .returned (.agg #[.int .i64 (hoP phi (r - sid) d), .int .i64 (hoQ phi (r - sid) d), .int .i64 (hoR phi (r - sid) d)]) ∧ Below w.heap.size w w' := by
  have D := Lib.hid (fun w => l04Direction_any (r - sid) d (by omega) (by omega) (by omega) (by omega) w)
  have R := Lib.hid (fun w => l04Rotated_any (dX (r - sid) d) (dY (r - sid) d) (sinI d) 2 phi (inV_2 (dir_in _ _)) (by omega) (by omega) (by omega) w)
  unfold hoP hoQ hoR
  change Hid (∀ w, Calls Tryz.prog 75 #[.int .i64 (r - sid), .int .i64 d] w fun e w' => e = .returned (.agg #[.int .i64 (dX (r - sid) d), .int .i64 (dY (r - sid) d), .int .i64 (sinI d)]) ∧ Below w.heap.size w w') at D
  generalize roX 2 (dX (r - sid) d) (dY (r - sid) d) (sinI d) (sinI phi) (cosI phi) = X at *
  generalize roY 2 (dX (r - sid) d) (dY (r - sid) d) (sinI d) (sinI phi) (cosI phi) = Y at *
  generalize roZ 2 (dX (r - sid) d) (dY (r - sid) d) (sinI d) (sinI phi) (cosI phi) = Z at *
  generalize dX (r - sid) d = x at *
  generalize dY (r - sid) d = y at *
  generalize sinI d = z at *
  go_enter Tryz.func48, Tryz.ntmps48
  go_wp2_with fail
  refine (D.out _).mono ?_
  rintro e w1 ⟨rfl, hb⟩
  have hsw1 := hb.size
  try simp at hsw1
  obtain ⟨hcw1, hfw1⟩ := bcell hb
  have HBw1 : Hid (Below w.heap.size w w1) := by
    apply Lib.hid
    refine Below.trans ?_ (hb.mono ?_)
    · repeat (first | exact Below.refl _ _ | refine Below.setCell ?_ (by first | (simp; done) | omega | (simp; omega)) _ | refine Below.alloc ?_ (by first | (simp; done) | omega | (simp; omega)) _)
    · first | (simp; done) | omega | (simp; omega)
  have hzw1 : w.heap.size < w1.heap.size := by have := hb.size; (try simp at this); omega
  clear hb
  go_wp2_with fail
  refine (R.out _).mono ?_
  rintro e w2 ⟨rfl, hb⟩
  have hsw2 := hb.size
  try simp at hsw2
  obtain ⟨hcw2, hfw2⟩ := bcell hb
  have HBw2 : Hid (Below w.heap.size w w2) := by
    apply Lib.hid
    refine Below.trans ?_ (hb.mono ?_)
    · repeat (first | exact Below.refl _ _ | exact HBw1.out | refine Below.setCell ?_ (by first | (simp; done) | omega | (simp; omega)) _ | refine Below.alloc ?_ (by first | (simp; done) | omega | (simp; omega)) _)
    · first | (simp; done) | omega | (simp; omega)
  have hzw2 : w.heap.size < w2.heap.size := by have := hb.size; (try simp at this); omega
  clear hb
  first | (have gsw2w1 : w1.heap.size < w2.heap.size := by omega) | skip
  go_wp2_with fail
  have z0 : w2.cell? ⟨w.heap.size, 0, none⟩ = some (.int .i64 0) := by rw [hcw2 _ _ hzw1, hcw1 _ _ (by first | (simp; done) | (simp; omega))]; simp
  have z1 : w2.cell? ⟨w.heap.size, 1, none⟩ = some (.int .i64 0) := by rw [hcw2 _ _ hzw1, hcw1 _ _ (by first | (simp; done) | (simp; omega))]; simp
  have z2 : w2.cell? ⟨w.heap.size, 2, none⟩ = some (.int .i64 0) := by rw [hcw2 _ _ hzw1, hcw1 _ _ (by first | (simp; done) | (simp; omega))]; simp
  refine bodyPost_ret (v := .agg #[.int .i64 Z, .int .i64 Y, .int .i64 X]) (by first | (simp [results, Tryz.results48, go_sem]; done) | (simp [results, Tryz.results48, go_sem, z0, z1, z2, *]; done)) rfl ⟨rfl, ?_⟩
  repeat (first | exact Below.refl _ _ | exact HBw2.out | refine Below.setCell ?_ (by first | (simp; done) | omega | (simp; omega)) _ | refine Below.alloc ?_ (by first | (simp; done) | omega | (simp; omega)) _ | refine bel_drew ?_)

/-- What HorizontalVector returns. -/
def horV (s : ByteArray) (a b sid r d : Int) : Value := if askI s a b sid r d = 0 then .tuple #[.agg #[.int .i64 (hoP b (r - sid) d), .int .i64 (hoQ b (r - sid) d), .int .i64 (hoR b (r - sid) d)], .int .i64 0] else .tuple #[.agg #[.int .i64 0, .int .i64 0, .int .i64 0], .int .i64 (askI s a b sid r d)]
theorem horV_form (s : ByteArray) (a b sid r d : Int) : ∃ x y z c : Int, horV s a b sid r d = .tuple #[.agg #[.int .i64 x, .int .i64 y, .int .i64 z], .int .i64 c] := by unfold horV; split <;> exact ⟨_, _, _, _, rfl⟩

theorem fin_Hor1 : True := trivial
end

section
open Go.RowKit
set_option linter.unusedVariables false

set_option maxHeartbeats 4000000 in
theorem horiz_any (s : ByteArray) (a b sid r d : Int) (p0 : -90000 ≤ b) (p1 : b ≤ 90000) (s0 : 0 ≤ sid) (s1 : sid ≤ 360000) (r0 : 0 ≤ r) (r1 : r ≤ 360000) (d0 : -90000 ≤ d) (d1 : d ≤ 90000) (w : World) (hs : SinesOK w) :
    Calls Tryz.prog 56 #[.agg #[.string s, .int .i64 a, .int .i64 b, .int .i64 sid], .agg #[.int .i64 r, .int .i64 d]] w fun e w' => e = .returned (.tuple #[.agg #[.int .i64 (hoP b (r - sid) d), .int .i64 (hoQ b (r - sid) d), .int .i64 (hoR b (r - sid) d)], .int .i64 0]) ∧ Below w.heap.size w w' := by
  have T := Lib.hid (fun w hs => dirTow_any (r - sid) d ⟨by omega, by omega⟩ w hs)
  rw [dirT_in _ _ d0 d1] at T
  have R := Lib.hid (fun w hs => implRot_any (dX (r - sid) d) (dY (r - sid) d) (sinI d) 2 b (by omega) (by omega) w hs)
  rw [rot_ok _ _ _ _ (dir_in _ _)] at R
  have EX := Lib.hid (fun w => exch_any (hoR b (r - sid) d) (hoQ b (r - sid) d) (hoP b (r - sid) d) w)
  unfold hoP hoQ hoR at EX ⊢
  have E := Lib.hid hs
  clear hs
  simp only at T
  generalize roX 2 (dX (r - sid) d) (dY (r - sid) d) (sinI d) (sinI b) (cosI b) = X at *
  generalize roY 2 (dX (r - sid) d) (dY (r - sid) d) (sinI d) (sinI b) (cosI b) = Y at *
  generalize roZ 2 (dX (r - sid) d) (dY (r - sid) d) (sinI d) (sinI b) (cosI b) = Z at *
  generalize dX (r - sid) d = x at *
  generalize dY (r - sid) d = y at *
  generalize sinI d = z at *
  obtain ⟨W0, hW0⟩ : ∃ W0, W0 = (((w.alloc (.cells #[.string s, .int .i64 a, .int .i64 b, .int .i64 sid] 57)).alloc (.cells #[.int .i64 r, .int .i64 d] 76)).alloc (.cells #[.int .i64 0, .int .i64 0, .int .i64 0] 71)).alloc (.cells #[.int .i64 (r - sid), .int .i64 d] 76) := ⟨_, rfl⟩
  have K0 : Hid (W0.cell? ⟨w.heap.size, 2, none⟩ = some (.int .i64 b) ∧ W0.cell? ⟨w.heap.size + 1 + 1 + 1, 0, none⟩ = some (.int .i64 (r - sid)) ∧ W0.cell? ⟨w.heap.size + 1 + 1 + 1, 1, none⟩ = some (.int .i64 d) ∧ Below W0.heap.size W0 W0) := Lib.hid (by rw [hW0]; exact ⟨by rw [World.cell?_alloc_lt _ _ _ (by first | (simp; done) | (simp; omega)), World.cell?_alloc_lt _ _ _ (by first | (simp; done) | (simp; omega))]; simp, by rw [World.cell?_alloc_at _ _ _ _ (by first | (simp; done) | (simp; omega))]; rfl, by rw [World.cell?_alloc_at _ _ _ _ (by first | (simp; done) | (simp; omega))]; rfl, Below.refl _ _⟩)
  have R0 : Hid (C3 W0 (w.heap.size + 1 + 1) 0 0 0) := Lib.hid (by rw [hW0]; simpa using (C3.new ((w.alloc (.cells #[.string s, .int .i64 a, .int .i64 b, .int .i64 sid] 57)).alloc (.cells #[.int .i64 r, .int .i64 d] 76)) 71 0 0 0).alloc (by simp) (.cells #[.int .i64 (r - sid), .int .i64 d] 76))
  have HB0 : Hid (Below w.heap.size w W0) := Lib.hid (by rw [hW0]; repeat (first | exact Below.refl _ _ | refine Below.alloc ?_ (by first | (simp; done) | (simp; omega)) _))
  have HW := Lib.hid hW0
  clear hW0
  go_enter Tryz.func56, Tryz.ntmps56
  go_wp2_with fail
  rw [← HW.out]
  clear HW
  have E0 := Lib.hid (E.out.below HB0.out)
  obtain ⟨k0, k1, k2, k3⟩ := K0.out
  go_cut [7, 8] from 9 (fun sp sc wx => ∃ r : Nat, sp = .pointer (some ⟨r, 0, none⟩) ∧ sc = .int .i64 0 ∧ Hid (C3 wx r X Y Z) ∧ Hid (Below W0.heap.size W0 wx))
  case first =>
    go_region_held3 (fun w' => w'.cell? ⟨w.heap.size, 2, none⟩ = some (.int .i64 b) ∧ w'.cell? ⟨w.heap.size + 1 + 1 + 1, 0, none⟩ = some (.int .i64 (r - sid)) ∧ w'.cell? ⟨w.heap.size + 1 + 1 + 1, 1, none⟩ = some (.int .i64 d) ∧ Below W0.heap.size W0 w') (first | (exact keepA3 K0.out (bel_drew (Below.refl _ _))) | (exact keepA3 K0.out y2) | (exact keepA3 K0.out y1) | (exact keepA3 K0.out (y2.alloc y2.size _)) | (exact keepA3 K0.out (y1.alloc y1.size _)) | (exact keepA3 K0.out ((bel_drew (Below.refl _ _)).alloc (Nat.le_refl _) _)) | (exact keepA3 K0.out (((y2.setCell y2.size _).setCell y2.size _).setCell y2.size _)) | (exact keepA3 K0.out (((y2.setCell y1.size _).setCell y1.size _).setCell y1.size _)) | (exact keepA3 K0.out (((y2.setCell (Nat.le_refl _) _).setCell (Nat.le_refl _) _).setCell (Nat.le_refl _) _)) | go_keep) ((first
      | (go_at_call 82; (with_reducible refine (T.out _ (SinesOK.below E0.out (by first | exact bel_drew (Below.refl _ _) | exact ((Below.refl _ _).alloc (Nat.le_refl _) _) | exact bel_drew ((Below.refl _ _).alloc (Nat.le_refl _) _) | exact (bel_drew (Below.refl _ _)).alloc (Nat.le_refl _) _))).mono ?_); rintro e x1 ⟨rfl, hx1⟩; (first | have y1 := undrewD hx1 | have y1 := undrewA hx1 | have y1 := undrew hx1))
      | (go_at_call 81; (with_reducible refine (R.out _ (SinesOK.below E0.out (by first | exact y1 | exact y1.alloc y1.size _))).mono ?_); rintro e x2 ⟨rfl, hx2⟩; (first | have y2 := onwardA y1 hx2 | have y2 := onward y1 hx2); (first | (have r := C3.late hx2; have rr := Lib.hid r; obtain ⟨q0, q1, q2, q3, q4, q5⟩ := r) | (have r := (C3.late hx1).on hx2; have rr := Lib.hid r; obtain ⟨q0, q1, q2, q3, q4, q5⟩ := r) | (have r := (C3.lateD hx1).on hx2; have rr := Lib.hid r; obtain ⟨q0, q1, q2, q3, q4, q5⟩ := r) | skip))))
    all_goals
      rename_i held
      have S1 := Lib.hid held.2.2.2
      clear held
      go_wp2_with fail
      go_meet
      case rel => first | exact ⟨_, rfl, rfl, Lib.hid (C3.new _ _ _ _ _), S1⟩ | exact ⟨_, rfl, rfl, Lib.hid (C3.stored rr.out _ _ _), S1⟩
  case rest =>
    obtain ⟨q, rfl, rfl, CQ, S2⟩ := hcut
    obtain ⟨q0, q1, q2, _, _, _⟩ := CQ.out
    have R1 := R0.out.on S2.out
    have HR1 := Lib.hid R1
    have HB1 := Lib.hid (HB0.out.trans (S2.out.mono HB0.out.size))
    clear R1 k0 k1 k2 k3 K0 CQ
    go_wp2_with fail
    refine (EX.out _).mono ?_
    rintro e x1 ⟨rfl, hb⟩
    have R2 := HR1.out.on hb
    have HB2 := Lib.hid (HB1.out.trans (hb.mono HB1.out.size))
    clear hb q0 q1 q2
    obtain ⟨r0', r1', r2', r3', r4', r5'⟩ := R2
    go_wp2_with fail
    refine bodyPost_ret (v := .tuple #[.agg #[.int .i64 Z, .int .i64 Y, .int .i64 X], .int .i64 0]) (by first | (simp [results, Tryz.results56, go_sem]; done) | (simp [results, Tryz.results56, go_sem, *]; done)) rfl ⟨rfl, ?_⟩
    repeat (first | exact Below.refl _ _ | exact HB2.out | refine Below.setCell ?_ (by first | (simp; done) | omega | (simp; omega)) _ | refine Below.alloc ?_ (by first | (simp; done) | omega | (simp; omega)) _ | refine bel_drew ?_)
theorem fin_Hor2 : True := trivial
end
end Go.Proofs.YtjghopepgfgebaaGreatDoor
