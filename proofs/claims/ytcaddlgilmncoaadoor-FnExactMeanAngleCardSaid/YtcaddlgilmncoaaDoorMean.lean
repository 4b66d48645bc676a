/-
  The mean of angles: the contracts of MeanAngle in both packages.
-/
import Derived.Test.YtcaddlgilmncoaaDoorLstI
import Derived.Test.YtcaddlgilmncoaaDoorSSep
namespace Go.Proofs.YtcaddlgilmncoaaDoor
open Go.RowKit
set_option linter.unusedVariables false

/-- The sum of f over the first k numbers of a list. -/
def sumK (f : Int → Int) (zs : List Int) (k : Nat) : Int := ((zs.take k).map f).foldl (· + ·) 0
theorem sumK_0 (f : Int → Int) (zs : List Int) : sumK f zs 0 = 0 := rfl
theorem sumK_succ (f : Int → Int) (zs : List Int) (k : Nat) (h : k < zs.length) : sumK f zs (k + 1) = sumK f zs k + f zs[k] := by
  unfold sumK
  rw [List.take_succ_eq_append_getElem h, List.map_append, List.foldl_append]
  rfl
theorem sumK_bd (f : Int → Int) (hf : ∀ a, -1000000 ≤ f a ∧ f a ≤ 1000000) (zs : List Int) : ∀ k, k ≤ zs.length → -(1000000 * (k : Int)) ≤ sumK f zs k ∧ sumK f zs k ≤ 1000000 * (k : Int) := by
  intro k
  induction k with
  | zero => intro _; rw [sumK_0]; omega
  | succ k ih =>
    intro hk
    rw [sumK_succ f zs k (by omega)]
    have := ih (by omega)
    have := hf zs[k]
    omega
/-- What MeanAngle answers. -/
def meanV (zs : List Int) : Value := if 64 < zs.length then .tuple #[.int .i64 0, .int .i64 5] else atanV (sumK sinI zs zs.length) (sumK cosI zs zs.length)
theorem meanV_form (zs : List Int) : ∃ a b : Int, meanV zs = .tuple #[.int .i64 a, .int .i64 b] := by
  unfold meanV
  split
  · exact ⟨_, _, rfl⟩
  · exact atanV_form _ _

set_option maxHeartbeats 1000000 in
theorem implMean_any (g cap : Nat) (zs : List Int) (w : World) (hg : g < w.heap.size) (hfit : ∀ j, (hj : j < zs.length) → -9223372036854775808 ≤ zs[j] ∧ zs[j] ≤ 9223372036854775807) (hmax : zs.length ≤ 1048576)
    (hc : ∀ j, (hj : j < zs.length) → w.cell? ⟨g, j, none⟩ = some (.int .i64 zs[j])) (hs : SinesOK w) :
    Calls Tryd.prog 23 #[.slice (some ⟨g, 0, none⟩) zs.length cap] w fun e w' => e = .returned (meanV zs) ∧ Below w.heap.size w w' := by
  unfold meanV
  by_cases hl : 64 < zs.length
  · rw [if_pos hl]
    have h1 : decide ((64 : Int) < (zs.length : Int)) = true := by simp; omega
    clear hc hfit hs
    go_enter Tryd.func23, Tryd.ntmps23
    go_wp2_with fail
    go_ret2
    exact ⟨rfl, Below.refl _ _⟩
  · rw [if_neg hl]
    have h1 : decide ((64 : Int) < (zs.length : Int)) = false := by simp; omega
    have HC := Lib.hid hc
    have HF := Lib.hid hfit
    have E := Lib.hid hs
    have T := Lib.hid (fun w hs => implATan_any (sumK sinI zs zs.length) (sumK cosI zs zs.length) w hs)
    obtain ⟨r, q, hz⟩ := atanV_form (sumK sinI zs zs.length) (sumK cosI zs zs.length)
    rw [hz] at T ⊢
    clear hz hc hfit hs
    have hlen : zs.length ≤ 64 := by omega
    go_enter Tryd.func23, Tryd.ntmps23
    go_wp2_with fail
    go_loopg [4, 5, 13] 65 (fun kx s4 s5 s13 wr => ∃ k : Nat, k ≤ zs.length ∧ kx = 65 - k ∧ s13 = .int .i64 k ∧ s4 = .int .i64 (sumK sinI zs k) ∧ s5 = .int .i64 (sumK cosI zs k) ∧ Hid (Below w.heap.size w wr))
    case atStart => exact ⟨0, by omega, rfl, rfl, rfl, rfl, Lib.hid (Below.refl _ _)⟩
    case round =>
      obtain ⟨k, hk, rfl, rfl, rfl, rfl, B⟩ := hrel
      by_cases hlt : k < zs.length
      · have c1 : wr.cell? ⟨g, k, none⟩ = some (.int .i64 zs[k]) := (B.out.cell (p := ⟨g, k, none⟩) hg).trans (HC.out k hlt)
        obtain ⟨f0, f1⟩ := HF.out k hlt
        have SI := Lib.hid (fun w hs => implSine_any zs[k] f0 f1 w hs)
        have CO := Lib.hid (fun w hs => implCosine_any zs[k] f0 f1 w hs)
        have e1 := sumK_succ sinI zs k hlt
        have e2 := sumK_succ cosI zs k hlt
        have b1 := sumK_bd sinI sinI_bd zs k hk
        have b2 := sumK_bd cosI cosI_bd zs k hk
        have b3 := sinI_bd zs[k]
        have b4 := cosI_bd zs[k]
        have N1 := Lib.hid e1
        have N2 := Lib.hid e2
        clear e1 e2
        generalize sumK sinI zs k = sa at *
        generalize sumK cosI zs k = ca at *
        generalize hse : sinI zs[k] = se at *
        generalize hce : cosI zs[k] = ce at *
        have m1 : wrap64 (sa + se) = sa + se := IntWalk.wrap64_in _ (by omega)
        have m2 : wrap64 (ca + ce) = ca + ce := IntWalk.wrap64_in _ (by omega)
        clear hse hce
        generalize zs[k] = z at *
        go_wp2_with fail
        refine (SI.out _ (SinesOK.below E.out B.out)).mono ?_
        rintro e w1 ⟨rfl, hb⟩
        have B1 := Lib.hid (B.out.trans (hb.mono B.out.size))
        clear hb
        go_wp2_with fail
        refine (CO.out _ (SinesOK.below E.out B1.out)).mono ?_
        rintro e w2 ⟨rfl, hb⟩
        have B2 := Lib.hid (B1.out.trans (hb.mono B1.out.size))
        clear hb
        go_wp2_with fail
        go_roundg (65 - (k + 1))
        case measure => omega
        case rel => exact ⟨k + 1, by omega, rfl, by go_num, by rw [N1.out], by rw [N2.out], B2⟩
      · obtain rfl : k = zs.length := by omega
        go_wp2_with fail
        refine (T.out _ (SinesOK.below E.out B.out)).mono ?_
        rintro e w1 ⟨rfl, hb⟩
        have B1 := Lib.hid (B.out.trans (hb.mono B.out.size))
        clear hb
        go_wp2_with fail
        go_ret2
        exact ⟨rfl, B1.out⟩

set_option maxHeartbeats 1000000 in
theorem specMean_any (g cap : Nat) (zs : List Int) (w : World) (hg : g < w.heap.size) (hfit : ∀ j, (hj : j < zs.length) → -9223372036854775808 ≤ zs[j] ∧ zs[j] ≤ 9223372036854775807) (hmax : zs.length ≤ 1048576)
    (hc : ∀ j, (hj : j < zs.length) → w.cell? ⟨g, j, none⟩ = some (.int .i64 zs[j])) :
    Calls Tryd.prog 21 #[.slice (some ⟨g, 0, none⟩) zs.length cap] w fun e w' => e = .returned (meanV zs) ∧ Below w.heap.size w w' := by
  unfold meanV
  by_cases hl : 64 < zs.length
  · rw [if_pos hl]
    have h1 : decide ((64 : Int) < (zs.length : Int)) = true := by simp; omega
    clear hc hfit
    go_enter Tryd.func21, Tryd.ntmps21
    go_wp2_with fail
    go_ret2
    exact ⟨rfl, Below.refl _ _⟩
  · rw [if_neg hl]
    have h1 : decide ((64 : Int) < (zs.length : Int)) = false := by simp; omega
    have HC := Lib.hid hc
    have HF := Lib.hid hfit
    have hlen : zs.length ≤ 64 := by omega
    have s1 := sumK_bd sinI sinI_bd zs zs.length (Nat.le_refl _)
    have s2 := sumK_bd cosI cosI_bd zs zs.length (Nat.le_refl _)
    have T := Lib.hid (fun w => l02Arc_any (sumK sinI zs zs.length) (sumK cosI zs zs.length) (by omega) (by omega) (by omega) (by omega) w)
    have ea : atanV (sumK sinI zs zs.length) (sumK cosI zs zs.length) = if sumK sinI zs zs.length = 0 ∧ sumK cosI zs zs.length = 0 then .tuple #[.int .i64 0, .int .i64 6] else .tuple #[.int .i64 (dirI (sumK sinI zs zs.length) (sumK cosI zs zs.length)), .int .i64 0] := by
      unfold atanV
      rw [if_pos ((inR_two _ _ _ _).2 ⟨⟨by omega, by omega⟩, by omega, by omega⟩)]
    obtain ⟨r, q, hz⟩ := atanV_form (sumK sinI zs zs.length) (sumK cosI zs zs.length)
    have EA := Lib.hid (hz.symm.trans ea)
    rw [hz]
    clear hz hc hfit ea s1 s2
    go_enter Tryd.func21, Tryd.ntmps21
    go_wp2_with fail
    go_loopg [4, 5, 6] 65 (fun kx s4 s5 s6 wr => ∃ k : Nat, k ≤ zs.length ∧ kx = 65 - k ∧ s6 = .int .i64 k ∧ s4 = .int .i64 (sumK cosI zs k) ∧ s5 = .int .i64 (sumK sinI zs k) ∧ Hid (Below w.heap.size w wr))
    case atStart => exact ⟨0, by omega, rfl, rfl, rfl, rfl, Lib.hid (Below.refl _ _)⟩
    case round =>
      obtain ⟨k, hk, rfl, rfl, rfl, rfl, B⟩ := hrel
      by_cases hlt : k < zs.length
      · have c1 : wr.cell? ⟨g, k, none⟩ = some (.int .i64 zs[k]) := (B.out.cell (p := ⟨g, k, none⟩) hg).trans (HC.out k hlt)
        have C1 := Lib.hid c1
        obtain ⟨f0, f1⟩ := HF.out k hlt
        have SI := Lib.hid (fun w => l02Sine_any zs[k] f0 f1 w)
        have CO := Lib.hid (fun w => l02Cosine_any zs[k] f0 f1 w)
        have e1 := sumK_succ sinI zs k hlt
        have e2 := sumK_succ cosI zs k hlt
        have b1 := sumK_bd sinI sinI_bd zs k hk
        have b2 := sumK_bd cosI cosI_bd zs k hk
        have b3 := sinI_bd zs[k]
        have b4 := cosI_bd zs[k]
        have N1 := Lib.hid e1
        have N2 := Lib.hid e2
        clear e1 e2
        generalize sumK sinI zs k = sa at *
        generalize sumK cosI zs k = ca at *
        generalize hse : sinI zs[k] = se at *
        generalize hce : cosI zs[k] = ce at *
        have m1 : wrap64 (sa + se) = sa + se := IntWalk.wrap64_in _ (by omega)
        have m2 : wrap64 (ca + ce) = ca + ce := IntWalk.wrap64_in _ (by omega)
        clear hse hce
        generalize zs[k] = z at *
        go_wp2_with fail
        refine (CO.out _).mono ?_
        rintro e w1 ⟨rfl, hb⟩
        have c2 : w1.cell? ⟨g, k, none⟩ = some (.int .i64 z) := (hb.cell (p := ⟨g, k, none⟩) (World.block_lt_of_cell? wr ⟨g, k, none⟩ C1.out)).trans C1.out
        have B1 := Lib.hid (B.out.trans (hb.mono B.out.size))
        clear hb c1
        go_wp2_with fail
        refine (SI.out _).mono ?_
        rintro e w2 ⟨rfl, hb⟩
        have B2 := Lib.hid (B1.out.trans (hb.mono B1.out.size))
        clear hb
        go_wp2_with fail
        go_roundg (65 - (k + 1))
        case measure => omega
        case rel => exact ⟨k + 1, by omega, rfl, by go_num, by rw [N2.out], by rw [N1.out], B2⟩
      · obtain rfl : k = zs.length := by omega
        have ea := EA.out
        generalize sumK sinI zs zs.length = sa at *
        generalize sumK cosI zs zs.length = ca at *
        by_cases hx : ca = 0
        · have hx' : (ca == 0) = true := by simpa using hx
          by_cases hy : sa = 0
          · have hy' : (sa == 0) = true := by simpa using hy
            rw [if_pos ⟨hy, hx⟩] at ea
            have EB := Lib.hid ea
            clear ea hx hy EA
            go_wp2_with fail
            go_ret2
            exact ⟨by rw [EB.out]; rfl, B.out⟩
          · have hy' : (sa == 0) = false := by simpa using hy
            rw [if_neg (fun h => hy h.1)] at ea
            have EB := Lib.hid ea
            clear ea hx hy EA
            go_wp2_with fail
            refine (T.out _).mono ?_
            rintro e w1 ⟨rfl, hb⟩
            have B1 := Lib.hid (B.out.trans (hb.mono B.out.size))
            clear hb
            go_wp2_with fail
            go_ret2
            exact ⟨by rw [EB.out]; rfl, B1.out⟩
        · have hx' : (ca == 0) = false := by simpa using hx
          rw [if_neg (fun h => hx h.2)] at ea
          have EB := Lib.hid ea
          clear ea hx EA
          go_wp2_with fail
          refine (T.out _).mono ?_
          rintro e w1 ⟨rfl, hb⟩
          have B1 := Lib.hid (B.out.trans (hb.mono B.out.size))
          clear hb
          go_wp2_with fail
          go_ret2
          exact ⟨by rw [EB.out]; rfl, B1.out⟩
end Go.Proofs.YtcaddlgilmncoaaDoor
