/-
  The value of a curve at a level (both packages): l01Line, l12At, levelAt, CurveAt.
-/
import Derived.Test.YtleaoemckdkndaaKnD
import Derived.Test.YtleaoemckdkndaaSrch
import Derived.Deep.LoopGhost
namespace Go.Proofs.Ytleaoemckdkndaa.Kn
open Go.RowKit
set_option linter.unusedVariables false

/-- What a valid curve is. -/
structure Cur (zs : List V) : Prop where
  n2 : 2 ≤ zs.length
  n16 : zs.length ≤ 16
  z : (gk zs 0).f0 = 0
  l : (gk zs (zs.length - 1)).f0 = 1000
  i : ∀ j, j < zs.length → (0 ≤ (gk zs j).f0 ∧ (gk zs j).f0 ≤ 1000) ∧ 0 ≤ (gk zs j).f1 ∧ (gk zs j).f1 ≤ 1000
  s : ∀ j, j + 1 < zs.length → (gk zs j).f0 < (gk zs (j + 1)).f0 ∧ (gk zs j).f1 ≤ (gk zs (j + 1)).f1
theorem cur_of {zs : List V} (h : curveB zs = true) : Cur zs := by
  unfold curveB at h
  rw [Bool.and_eq_true] at h
  obtain ⟨hh, ha⟩ := h
  have hh' := hh
  unfold headB at hh'
  simp only [Bool.and_eq_true, decide_eq_true_eq, inR_1] at hh'
  obtain ⟨⟨h1, h2⟩, h3, h4⟩ := hh'
  refine ⟨by omega, by omega, h3, h4, fun j hj => ?_, fun j hj => ?_⟩
  · have a := allK_at ha j hj
    unfold stepI at a
    rw [Bool.and_eq_true, inR_2, Bool.and_eq_true, inR_1, inR_1] at a
    exact ⟨a.1.1, a.1.2⟩
  · have a := allK_at ha (j + 1) hj
    unfold stepI folB bfB at a
    simp only [Bool.and_eq_true, Bool.or_eq_true, decide_eq_true_eq, Nat.add_one_sub_one] at a
    rcases a.2 with e | e
    · omega
    · exact e
theorem Cur.mono {zs : List V} (h : Cur zs) : ∀ j i, i ≤ j → j < zs.length → (gk zs i).f0 ≤ (gk zs j).f0 ∧ (gk zs i).f1 ≤ (gk zs j).f1
  | 0, i, hi, _ => by obtain rfl : i = 0 := by omega
                      exact ⟨Int.le_refl _, Int.le_refl _⟩
  | j + 1, i, hi, hj => by
    by_cases c : i = j + 1
    · subst c; exact ⟨Int.le_refl _, Int.le_refl _⟩
    · have h1 := h.mono j i (by omega) (by omega)
      have h2 := h.s j hj
      omega
/-- Where a level is met. -/
def metB (zs : List V) (x : Int) (i : Nat) : Bool := decide (x ≤ (gk zs i).f0)
def atK (zs : List V) (x : Int) : Nat := cnt (zs.length - 1) (metB zs x)
theorem atK_le (zs : List V) (x : Int) : atK zs x ≤ zs.length - 1 := cnt_le _ _
theorem metB_mono {zs : List V} (h : Cur zs) (x : Int) (a b : Nat) (hab : a ≤ b) (hb : b < zs.length - 1) (ha : metB zs x a = true) : metB zs x b = true := by
  unfold metB at *
  have := (h.mono b a hab (by omega)).1
  rw [decide_eq_true_eq] at *
  omega
theorem atK_iff {zs : List V} (h : Cur zs) (x : Int) (i : Nat) (hi : i < zs.length - 1) : metB zs x i = true ↔ atK zs x ≤ i := cnt_iff (zs.length - 1) (metB zs x) (metB_mono h x) i hi
/-- The value at a level. -/
def levI (zs : List V) (x : Int) : Int := lineI (gk zs (atK zs x - 1)).f0 (gk zs (atK zs x - 1)).f1 (gk zs (atK zs x)).f0 (gk zs (atK zs x)).f1 x
theorem levI_low {zs : List V} (h : Cur zs) (x : Int) (hk : atK zs x = 0) : levI zs x = lineI (gk zs 0).f0 (gk zs 0).f1 (gk zs (0 + 1)).f0 (gk zs (0 + 1)).f1 x := by
  have h1 := (atK_iff h x 0 (by have := h.n2; omega)).2 (by omega)
  unfold metB at h1
  rw [decide_eq_true_eq] at h1
  unfold levI
  rw [hk]
  unfold lineI
  rw [if_pos (Or.inl (by simpa using h1)), if_pos (Or.inl h1)]
theorem levI_at {zs : List V} (h : Cur zs) (x : Int) (k : Nat) (hk : k = atK zs x - 1) : levI zs x = lineI (gk zs k).f0 (gk zs k).f1 (gk zs (k + 1)).f0 (gk zs (k + 1)).f1 x := by
  by_cases c : atK zs x = 0
  · obtain rfl : k = 0 := by omega
    exact levI_low h x c
  · obtain ⟨m, hm⟩ : ∃ m, atK zs x = m + 1 := ⟨atK zs x - 1, by omega⟩
    obtain rfl : k = m := by omega
    unfold levI
    rw [hm]
    rfl

set_option maxHeartbeats 1000000 in
theorem l01LineK_any (x0 y0 x1 y1 x : Int) (w : World) (h1 : -1000000 ≤ x0) (h1' : x0 ≤ 1000000) (h2 : -1000000 ≤ y0) (h2' : y0 ≤ 1000000)
    (h3 : -1000000 ≤ x1) (h3' : x1 ≤ 1000000) (h4 : -1000000 ≤ y1) (h4' : y1 ≤ 1000000) :
    Calls Try.prog 125 #[.int .i64 x0, .int .i64 y0, .int .i64 x1, .int .i64 y1, .int .i64 x] w fun e w' => e = .returned (.int .i64 (lineI x0 y0 x1 y1 x)) ∧ w = w' := by
  by_cases c1 : x ≤ x0
  ·
    go_enter Try.func125, Try.ntmps125
    go_wp2_with fail
    go_ret
    exact ⟨ret_int (by unfold lineI; rw [if_pos (by omega)]), rfl⟩
  · have c1' : decide (x ≤ x0) = false := by simpa using c1
    by_cases c2 : x1 ≤ x0
    ·
      go_enter Try.func125, Try.ntmps125
      go_wp2_with fail
      go_ret
      exact ⟨ret_int (by unfold lineI; rw [if_pos (by omega)]), rfl⟩
    · have c2' : decide (x1 ≤ x0) = false := by simpa using c2
      by_cases c3 : x1 ≤ x
      ·
        go_enter Try.func125, Try.ntmps125
        go_wp2_with fail
        go_ret
        exact ⟨ret_int (by unfold lineI; rw [if_neg (by omega), if_pos (by omega)]), rfl⟩
      · have c3' : decide (x1 ≤ x) = false := by simpa using c3
        obtain ⟨p1, p2⟩ := mul_bd (y1 - y0) (x - x0) 4000000 (by omega) (by omega) (by omega) (by omega)
        obtain ⟨q1, q2⟩ := nearQ_bd ((y1 - y0) * (x - x0)) (x1 - x0) (4000000 * 4000000) (by omega) (by omega) (by omega)
        have e : lineI x0 y0 x1 y1 x = y0 + nearQ ((y1 - y0) * (x - x0)) (x1 - x0) := by unfold lineI; rw [if_neg (by omega), if_neg (by omega)]
        rw [e]
        clear e
        go_enter Try.func125, Try.ntmps125
        go_wp2_with fail
        refine (l01Div_any _ _ _ (by omega) (by omega) (by omega) (by omega) (by omega)).mono ?_
        rintro e w' ⟨rfl, rfl⟩
        go_wp2_with fail
        go_ret
        exact ⟨rfl, rfl⟩

set_option maxRecDepth 100000 in
set_option maxHeartbeats 4000000 in
theorem l12At_any (g cap : Nat) (zs : List V) (x : Int) (w : World) (h1 : Row w g zs) (hc : Cur zs) :
    Calls Try.prog 85 #[.slice (some ⟨g, 0, none⟩) zs.length cap, .int .i64 x] w fun e w' => e = .returned (.int .i64 (levI zs x)) ∧ ∃ m, w' = w.drewN m := by
  have H1 := Lib.hid h1
  have HC := Lib.hid hc
  have RP := Lib.hid (fun (W : World) (hW : Row W g zs) k hk => Row.gk hW k hk)
  have AI := Lib.hid (fun i hi => atK_iff hc x i hi)
  have LA := Lib.hid (levI_at hc x)
  have AL := atK_le zs x
  have n2 := hc.n2
  have n16 := hc.n16
  clear h1 hc
  generalize levI zs x = r at *
  generalize atK zs x = a at *
  have lk : (zs.length : Int) - 2 = ((zs.length - 2 : Nat) : Int) := by omega
  go_enter Try.func85, Try.ntmps85
  go_wp2_with fail
  go_loopg [5] (zs.length + 1) (fun kx s5 wr => ∃ k : Nat, s5 = .int .i64 (k : Int) ∧ k ≤ a - 1 ∧ kx = zs.length + 1 - k ∧ w = wr)
  case atStart => exact ⟨0, rfl, Nat.zero_le _, rfl, rfl⟩
  case round =>
    obtain ⟨k, rfl, hk, rfl, rfl⟩ := hrel
    have k0 : (0 : Int) ≤ (k : Int) := by omega
    have k3 : (0 : Int) ≤ (k : Int) + 1 := by omega
    have k1 : (k : Int) + 1 < (zs.length : Int) := by omega
    have k2 : (k : Int) < (zs.length : Int) := by omega
    obtain ⟨c0, c1⟩ := RP.out w H1.out k (by omega)
    obtain ⟨d0, d1⟩ := RP.out w H1.out (k + 1) (by omega)
    have b0 := HC.out.i k (by omega)
    have b1 := HC.out.i (k + 1) (by omega)
    have LL := LA.out k
    have MB : k + 1 < zs.length - 1 → (x ≤ (gk zs (k + 1)).f0 ↔ a ≤ k + 1) := fun h => by
      have := AI.out (k + 1) h
      unfold metB at this
      rwa [decide_eq_true_eq] at this
    generalize (gk zs k).f0 = p0 at *
    generalize (gk zs k).f1 = p1 at *
    generalize (gk zs (k + 1)).f0 = q0 at *
    generalize (gk zs (k + 1)).f1 = q1 at *
    have LN := Lib.hid (fun w => l01LineK_any p0 p1 q0 q1 x w (by omega) (by omega) (by omega) (by omega) (by omega) (by omega) (by omega) (by omega))
    clear b0 b1
    by_cases hn : k < zs.length - 2
    · have hn' : (k : Int) < ((zs.length - 2 : Nat) : Int) := by omega
      have MB2 := MB (by omega)
      by_cases hx : x ≤ q0
      · have hx' : ¬ q0 < x := by omega
        have hx2 : decide (q0 < x) = false := decide_eq_false hx'
        have ha := MB2.1 hx
        have hr := LL (by omega)
        rw [← hr] at LN
        clear LL MB MB2 hr hx
        go_wp2_with fail
        go_quiet ((go_at_call 125; with_reducible exact quiet_leftK (LN.out _)))
        rename Nat => q9
        go_wp2_with fail
        go_ret
        exact ⟨rfl, _, rfl⟩
      · have hx' : q0 < x := by omega
        have hx2 : decide (q0 < x) = true := decide_eq_true hx'
        have ha : ¬ a ≤ k + 1 := fun h => hx (MB2.2 h)
        clear LL MB MB2 hx
        go_wp2_with fail
        go_roundg (zs.length + 1 - (k + 1))
        case measure => omega
        case rel => exact ⟨k + 1, by go_num, by omega, by omega, rfl⟩
    · have hn' : ¬ (k : Int) < ((zs.length - 2 : Nat) : Int) := by omega
      have hn2 : decide ((k : Int) < ((zs.length - 2 : Nat) : Int)) = false := decide_eq_false hn'
      have hr := LL (by omega)
      rw [← hr] at LN
      clear LL MB hr
      go_wp2_with fail
      go_quiet ((go_at_call 125; with_reducible exact quiet_leftK (LN.out _)))
      rename Nat => q9
      go_wp2_with fail
      go_ret
      exact ⟨rfl, _, rfl⟩
end Go.Proofs.Ytleaoemckdkndaa.Kn
