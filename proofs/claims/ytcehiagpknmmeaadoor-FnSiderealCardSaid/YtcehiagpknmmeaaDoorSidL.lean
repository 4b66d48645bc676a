/-
  The mathematics of FnSidereal.
-/
import Derived.Test.YtcehiagpknmmeaaDoorNxt
import Derived.Test.YtcehiagpknmmeaaDoorMomC
import Derived.Test.YtcehiagpknmmeaaDoorSun
namespace Go.Proofs.YtcehiagpknmmeaaDoor
open Go.RowKit
set_option linter.unusedVariables false

theorem trn_step (x : Int) : trn (x + 1) ≤ trn x + 2 := by unfold trn; omega
theorem trn_day (x : Int) (h : 0 ≤ x) : trn x + 360000 ≤ trn (x + 86400000) := by unfold trn; omega
theorem momV_ok {x : Int} (h0 : 0 ≤ x) (h1 : x ≤ 8639999999999) : momV x = .tuple #[.agg #[.int .i64 (x / 86400000), .int .i64 (x % 86400000)], .int .i64 0] := by
  unfold momV
  rw [if_pos ((inR_1 _ _ _).2 ⟨h0, h1⟩)]
theorem momV_no {x : Int} (h1 : 8639999999999 < x) : momV x = .tuple #[.agg #[.int .i64 0, .int .i64 0], .int .i64 6] := by
  unfold momV
  rw [if_neg (fun h => by have := (inR_1 _ _ _).1 h; omega)]
theorem okM_at {x : Int} (h0 : 0 ≤ x) (h1 : x ≤ 8639999999999) : okM (x / 86400000) (x % 86400000) = true := by
  unfold okM
  rw [(inR_1 0 99999 _).2 ⟨by omega, by omega⟩, (inR_1 0 86399999 _).2 ⟨by omega, by omega⟩]
  rfl
theorem sidV_ok {d m lon : Int} (h : okM d m = true) (h0 : 0 ≤ lon) (h1 : lon ≤ 359999) : sidV d m lon = .tuple #[.int .i64 (sidI d m lon), .int .i64 0] := by
  unfold sidV
  rw [if_pos h, if_pos ((inR_1 _ _ _).2 ⟨h0, h1⟩)]
theorem sid_rest (u ang n v : Int) (hn : n = u + nrm (ang - nrm (99968 + u))) (h0 : 0 ≤ ang) (h1 : ang < 360000) (hv0 : n ≤ v) (hv1 : v ≤ n + 1) : (nrm (99968 + v) - ang + 360000) % 360000 ≤ 1 := by
  unfold nrm at *
  omega
theorem sid_back (u ang n v : Int) (hn : n = u + nrm (ang - nrm (99968 + u))) (h0 : 0 ≤ ang) (h1 : ang < 360000) (hv0 : n - 2 ≤ v) (hv1 : v ≤ n - 1) : 1 ≤ (ang - nrm (99968 + v) + 360000) % 360000 ∧ (ang - nrm (99968 + v) + 360000) % 360000 ≤ 2 := by
  unfold nrm at *
  omega

/-- What the law asks of the next moment. -/
def SidNext (d m lon ang : Int) : Prop :=
  (nxtV d m lon ang = .tuple #[.agg #[.int .i64 0, .int .i64 0], .int .i64 6] ∧ 99998 ≤ d) ∨
  ∃ d2 m2 wt at' : Int, nxtV d m lon ang = .tuple #[.agg #[.int .i64 d2, .int .i64 m2], .int .i64 0] ∧ betweenV d m d2 m2 = .tuple #[.int .i64 wt, .int .i64 0] ∧ (0 ≤ wt ∧ wt ≤ 86400000) ∧
    sidV d2 m2 lon = .tuple #[.int .i64 at', .int .i64 0] ∧ (0 ≤ at' ∧ at' < 360000) ∧ (at' - ang + 360000) % 360000 ≤ 1 ∧
    (wt = 0 ∨ ∃ d3 m3 old : Int, afterV d2 m2 (-1) = .tuple #[.agg #[.int .i64 d3, .int .i64 m3], .int .i64 0] ∧ sidV d3 m3 lon = .tuple #[.int .i64 old, .int .i64 0] ∧ (0 ≤ old ∧ old < 360000) ∧ 1 ≤ (ang - old + 360000) % 360000 ∧ (ang - old + 360000) % 360000 ≤ 2)
theorem sid_next (d m lon ang : Int) (hok : okM d m = true) (l0 : 0 ≤ lon) (l1 : lon ≤ 359999) (a0 : 0 ≤ ang) (a1 : ang ≤ 359999) : SidNext d m lon ang := by
  obtain ⟨⟨d0, d1⟩, m0, m1⟩ := okM_bd d m hok
  have hg : goalN d m lon ang = trn (d * 86400000 + m) + nrm (ang - sidI d m lon) := rfl
  have hwl := wait_le (d * 86400000 + m) (goalN d m lon ang)
  have hwi := wait_iff (d * 86400000 + m) (goalN d m lon ang)
  have hv : nxtV d m lon ang = momV (d * 86400000 + m + (waitN (d * 86400000 + m) (goalN d m lon ang) : Nat)) := by
    unfold nxtV
    rw [if_pos hok, if_pos ((inR_1 _ _ _).2 ⟨l0, l1⟩), if_pos ((inR_1 _ _ _).2 ⟨a0, a1⟩)]
  have sd : sidI d m lon = nrm (99968 + lon + trn (d * 86400000 + m)) := rfl
  rw [sd] at hg
  clear sd
  unfold SidNext
  rw [hv]
  generalize hG : goalN d m lon ang = G at *
  generalize hW : waitN (d * 86400000 + m) G = W at *
  have hA0 : 0 ≤ d * 86400000 + m := by omega
  by_cases hfit : d * 86400000 + m + (W : Int) ≤ 8639999999999
  · right
    have hnb := nrm_bd (ang - nrm (99968 + lon + trn (d * 86400000 + m)))
    have ge : G ≤ trn (d * 86400000 + m + (W : Int)) := by
      by_cases hc : W < 86400000
      · exact (hwi W hc).2 (Nat.le_refl _)
      · have hd := trn_day (d * 86400000 + m) hA0
        have : W = 86400000 := by omega
        subst this
        have e : d * 86400000 + m + ((86400000 : Nat) : Int) = d * 86400000 + m + 86400000 := by omega
        rw [e]
        omega
    have below : 0 < W → trn (d * 86400000 + m + (W : Int) - 1) < G := by
      intro hw
      have h1 := hwi (W - 1) (by omega)
      have e : d * 86400000 + m + ((W - 1 : Nat) : Int) = d * 86400000 + m + (W : Int) - 1 := by omega
      rw [e] at h1
      have := mt h1.1 (by omega)
      omega
    have step := trn_step (d * 86400000 + m + (W : Int) - 1)
    rw [show d * 86400000 + m + (W : Int) - 1 + 1 = d * 86400000 + m + (W : Int) by omega] at step
    have up : trn (d * 86400000 + m + (W : Int)) ≤ G + 1 := by
      by_cases hw : 0 < W
      · have := below hw
        omega
      · have : W = 0 := by omega
        subst this
        have e : d * 86400000 + m + ((0 : Nat) : Int) = d * 86400000 + m := by omega
        rw [e]
        omega
    obtain ⟨x, hx⟩ : ∃ x, x = d * 86400000 + m + (W : Int) := ⟨_, rfl⟩
    rw [← hx] at ge below step up hfit ⊢
    have hx0 : 0 ≤ x := by omega
    have hm := okM_at hx0 hfit
    have sx : sidI (x / 86400000) (x % 86400000) lon = nrm (99968 + lon + trn x) := by
      show nrm (99968 + lon + trn (x / 86400000 * 86400000 + x % 86400000)) = _
      rw [show x / 86400000 * 86400000 + x % 86400000 = x by omega]
    refine ⟨x / 86400000, x % 86400000, x - (d * 86400000 + m), nrm (99968 + lon + trn x), momV_ok hx0 hfit, ?_, ⟨by omega, by omega⟩, ?_, nrm_bd _, ?_, ?_⟩
    · unfold betweenV
      rw [if_pos ⟨hok, hm⟩, show x / 86400000 * 86400000 + x % 86400000 = x by omega]
    · rw [sidV_ok hm l0 l1, sx]
    · have := sid_rest (lon + trn (d * 86400000 + m)) ang (lon + G) (lon + trn x) (by rw [hg, ← Int.add_assoc 99968]; omega) a0 (by omega) (by omega) (by omega)
      rw [← Int.add_assoc] at this
      exact this
    · by_cases hw : W = 0
      · left
        omega
      · right
        have hx1 : 0 ≤ x - 1 := by omega
        have hm1 := okM_at hx1 (by omega : x - 1 ≤ 8639999999999)
        have bl := below (by omega)
        refine ⟨(x - 1) / 86400000, (x - 1) % 86400000, nrm (99968 + lon + trn (x - 1)), ?_, ?_, nrm_bd _, ?_⟩
        · unfold afterV
          rw [if_pos hm, if_pos ((inR_1 _ _ _).2 ⟨by omega, by omega⟩), show x / 86400000 * 86400000 + x % 86400000 + -1 = x - 1 by omega]
          exact momV_ok hx1 (by omega)
        · rw [sidV_ok hm1 l0 l1]
          show Value.tuple #[.int .i64 (nrm (99968 + lon + trn ((x - 1) / 86400000 * 86400000 + (x - 1) % 86400000))), _] = _
          rw [show (x - 1) / 86400000 * 86400000 + (x - 1) % 86400000 = x - 1 by omega]
        · have := sid_back (lon + trn (d * 86400000 + m)) ang (lon + G) (lon + trn (x - 1)) (by rw [hg, ← Int.add_assoc 99968]; omega) a0 (by omega) (by omega) (by omega)
          rw [← Int.add_assoc] at this
          exact this
  · left
    exact ⟨momV_no (by omega), by omega⟩
theorem sid_same (d m lon : Int) (h0 : 0 ≤ lon) : sidI d m lon = (sidI d m 0 + lon) % 360000 := by
  unfold sidI nrm
  omega
end Go.Proofs.YtcehiagpknmmeaaDoor
