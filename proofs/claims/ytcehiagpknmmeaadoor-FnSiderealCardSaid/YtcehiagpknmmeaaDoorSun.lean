/-
  The sun among the stars: the contracts of SunLongitude, SeasonOf (both packages).
-/
import Derived.Test.YtcehiagpknmmeaaDoorSinW
import Derived.Test.YtcehiagpknmmeaaDoorDivR
import Derived.Test.YtcehiagpknmmeaaDoorMomM
namespace Go.Proofs.YtcehiagpknmmeaaDoor
open Go.RowKit
set_option linter.unusedVariables false

def anoI (x : Int) : Int := 357035 + x * 985600 / 86400000000
def meanI (x : Int) : Int := 279967 + x * 985647 / 86400000000
def n1I (x : Int) : Int := nearQ (1915 * sinI (anoI x)) 1000000
def n2I (x : Int) : Int := nearQ (20 * sinI (2 * anoI x)) 1000000
def sunI (x : Int) : Int := nrm (meanI x + (n1I x + n2I x))
def sunV (d m : Int) : Value := if okM d m = true then .tuple #[.int .i64 (sunI (d * 86400000 + m)), .int .i64 0] else .tuple #[.int .i64 0, .int .i64 1]
def seaV (d m : Int) : Value := if okM d m = true then .tuple #[.int .i64 (sunI (d * 86400000 + m) / 90000 + 1), .int .i64 0] else .tuple #[.int .i64 0, .int .i64 1]
theorem sunV_form (d m : Int) : ∃ x y : Int, sunV d m = .tuple #[.int .i64 x, .int .i64 y] := by
  unfold sunV
  split
  · exact ⟨_, _, rfl⟩
  · exact ⟨_, _, rfl⟩
theorem seaV_form (d m : Int) : ∃ x y : Int, seaV d m = .tuple #[.int .i64 x, .int .i64 y] := by
  unfold seaV
  split
  · exact ⟨_, _, rfl⟩
  · exact ⟨_, _, rfl⟩
theorem near_small (a M : Int) (h0 : 0 ≤ M) (h1 : -(M * 1000000) ≤ a) (h2 : a ≤ M * 1000000) : -M ≤ nearQ a 1000000 ∧ nearQ a 1000000 ≤ M := by
  by_cases h : a < 0
  · rw [nearQ_np a _ h (by omega)]; omega
  · rw [nearQ_pp a _ (by omega) (by omega)]; omega
theorem ano_bd (x : Int) (h0 : 0 ≤ x) (h1 : x ≤ 8639999999999) : 0 ≤ anoI x ∧ anoI x ≤ 200000000 := by
  unfold anoI
  have a : 0 ≤ x * 985600 := by omega
  have b : x * 985600 ≤ 8639999999999 * 985600 := by omega
  generalize x * 985600 = p at *
  omega
theorem mean_bd (x : Int) (h0 : 0 ≤ x) (h1 : x ≤ 8639999999999) : 279967 ≤ meanI x ∧ meanI x ≤ 200000000 := by
  unfold meanI
  have a : 0 ≤ x * 985647 := by omega
  have b : x * 985647 ≤ 8639999999999 * 985647 := by omega
  generalize x * 985647 = p at *
  omega
theorem n1_bd (x : Int) : -1915 ≤ n1I x ∧ n1I x ≤ 1915 := by
  have := sinI_bd (anoI x)
  exact near_small _ 1915 (by omega) (by omega) (by omega)
theorem n2_bd (x : Int) : -20 ≤ n2I x ∧ n2I x ≤ 20 := by
  have := sinI_bd (2 * anoI x)
  exact near_small _ 20 (by omega) (by omega) (by omega)
theorem divR_in (a : Int) (h0 : -1000000000000 ≤ a) (h1 : a ≤ 1000000000000) : divR a 1000000 = nearQ a 1000000 := by
  unfold divR
  rw [if_pos (by rw [inR_2, Bool.and_eq_true, inR_1, inR_1]; omega)]

set_option maxHeartbeats 400000 in
theorem implNrm_any (a : Int) (w : World) (h0 : -9223372036854775808 ≤ a) (h1 : a ≤ 9223372036854775807) :
    Calls Tryd.prog 18 #[.int .i64 a] w fun e w' => e = .returned (.int .i64 (nrm a)) ∧ w = w' := by
  go_enter Tryd.func18, Tryd.ntmps18
  go_wp2_with fail
  refine (normal_any _ _ h0 h1).mono ?_
  rintro e w' ⟨rfl, rfl⟩
  go_wp2_with fail
  go_ret
  exact ⟨rfl, rfl⟩

set_option maxHeartbeats 1000000 in
theorem implSun_any (d m : Int) (w : World) (hs : SinesOK w) :
    Calls Tryd.prog 10 #[.agg #[.int .i64 d, .int .i64 m]] w fun e w' => e = .returned (sunV d m) ∧ Below w.heap.size w w' := by
  have HS := Lib.hid hs
  clear hs
  unfold sunV
  have V := Lib.hid (fun w => valid_any d m w)
  cases ho : okM d m with
  | false =>
    rw [if_neg (by simp)]
    rw [ho] at V
    clear ho
    go_enter Tryd.func10, Tryd.ntmps10
    go_wp2_with fail
    refine (V.out _).mono ?_
    rintro e w1 ⟨rfl, hb⟩
    obtain ⟨hcw1, hfw1⟩ := bcell hb
    have HBw1 : Hid (Below w.heap.size w w1) := by
      apply Lib.hid
      refine Below.trans ?_ (hb.mono ?_)
      · repeat (first | exact Below.refl _ _ | refine Below.setCell ?_ (by first | (simp; done) | omega | (simp; omega)) _ | refine Below.alloc ?_ (by first | (simp; done) | omega | (simp; omega)) _)
      · first | (simp; done) | omega | (simp; omega)
    have hzw1 : w.heap.size < w1.heap.size := by have := hb.size; (try simp at this); omega
    clear hb
    go_wp2_with fail
    go_ret2
    exact ⟨rfl, HBw1.out⟩
  | true =>
    rw [if_pos rfl]
    obtain ⟨⟨d0, d1⟩, m0, m1⟩ := okM_bd d m ho
    rw [ho] at V
    clear ho
    have M := Lib.hid (fun w => millis_any d m d0 d1 m0 m1 w)
    unfold sunI
    obtain ⟨x0, x1⟩ : 0 ≤ d * 86400000 + m ∧ d * 86400000 + m ≤ 8639999999999 := by omega
    obtain ⟨g0, g1⟩ := ano_bd _ x0 x1
    obtain ⟨e0, e1⟩ := mean_bd _ x0 x1
    obtain ⟨p0, p1⟩ := n1_bd (d * 86400000 + m)
    obtain ⟨q0, q1⟩ := n2_bd (d * 86400000 + m)
    obtain ⟨y0, y1⟩ := sinI_bd (anoI (d * 86400000 + m))
    obtain ⟨z0, z1⟩ := sinI_bd (2 * anoI (d * 86400000 + m))
    have S1 := Lib.hid (fun w hs => implSine_any (anoI (d * 86400000 + m)) (by omega) (by omega) w hs)
    have S2 := Lib.hid (fun w hs => implSine_any (2 * anoI (d * 86400000 + m)) (by omega) (by omega) w hs)
    have D1 := Lib.hid (fun w => implDiv_any (1915 * sinI (anoI (d * 86400000 + m))) 1000000 w)
    have D2 := Lib.hid (fun w => implDiv_any (20 * sinI (2 * anoI (d * 86400000 + m))) 1000000 w)
    rw [divR_in _ (by omega) (by omega)] at D1 D2
    have NN := Lib.hid (fun w => implNrm_any (meanI (d * 86400000 + m) + (n1I (d * 86400000 + m) + n2I (d * 86400000 + m))) w (by omega) (by omega))
    unfold n1I n2I at *
    generalize nearQ (1915 * sinI (anoI (d * 86400000 + m))) 1000000 = n1 at *
    generalize nearQ (20 * sinI (2 * anoI (d * 86400000 + m))) 1000000 = n2 at *
    generalize sinI (anoI (d * 86400000 + m)) = s1 at *
    generalize sinI (2 * anoI (d * 86400000 + m)) = s2 at *
    unfold anoI meanI at *
    generalize d * 86400000 + m = x at *
    generalize nrm (279967 + x * 985647 / 86400000000 + (n1 + n2)) = z at *
    go_enter Tryd.func10, Tryd.ntmps10
    go_wp2_with fail
    refine (V.out _).mono ?_
    rintro e w1 ⟨rfl, hb⟩
    obtain ⟨hcw1, hfw1⟩ := bcell hb
    have HBw1 : Hid (Below w.heap.size w w1) := by
      apply Lib.hid
      refine Below.trans ?_ (hb.mono ?_)
      · repeat (first | exact Below.refl _ _ | refine Below.setCell ?_ (by first | (simp; done) | omega | (simp; omega)) _ | refine Below.alloc ?_ (by first | (simp; done) | omega | (simp; omega)) _)
      · first | (simp; done) | omega | (simp; omega)
    have hzw1 : w.heap.size < w1.heap.size := by have := hb.size; (try simp at this); omega
    clear hb
    go_wp2_with fail
    refine (M.out _).mono ?_
    rintro e w2 ⟨rfl, hb⟩
    obtain ⟨hcw2, hfw2⟩ := bcell hb
    have HBw2 : Hid (Below w.heap.size w w2) := by
      apply Lib.hid
      refine Below.trans ?_ (hb.mono ?_)
      · repeat (first | exact Below.refl _ _ | exact HBw1.out | refine Below.setCell ?_ (by first | (simp; done) | omega | (simp; omega)) _ | refine Below.alloc ?_ (by first | (simp; done) | omega | (simp; omega)) _)
      · first | (simp; done) | omega | (simp; omega)
    have hzw2 : w.heap.size < w2.heap.size := by have := hb.size; (try simp at this); omega
    clear hb
    go_wp2_with fail
    refine (S1.out _ (HS.out.below HBw2.out)).mono ?_
    rintro e w3 ⟨rfl, hb⟩
    obtain ⟨hcw3, hfw3⟩ := bcell hb
    have HBw3 : Hid (Below w.heap.size w w3) := by
      apply Lib.hid
      refine Below.trans ?_ (hb.mono ?_)
      · repeat (first | exact Below.refl _ _ | exact HBw2.out | refine Below.setCell ?_ (by first | (simp; done) | omega | (simp; omega)) _ | refine Below.alloc ?_ (by first | (simp; done) | omega | (simp; omega)) _)
      · first | (simp; done) | omega | (simp; omega)
    have hzw3 : w.heap.size < w3.heap.size := by have := hb.size; (try simp at this); omega
    clear hb
    go_wp2_with fail
    refine (D1.out _).mono ?_
    rintro e w4 ⟨rfl, hb⟩
    obtain ⟨hcw4, hfw4⟩ := bcell hb
    have HBw4 : Hid (Below w.heap.size w w4) := by
      apply Lib.hid
      refine Below.trans ?_ (hb.mono ?_)
      · repeat (first | exact Below.refl _ _ | exact HBw3.out | refine Below.setCell ?_ (by first | (simp; done) | omega | (simp; omega)) _ | refine Below.alloc ?_ (by first | (simp; done) | omega | (simp; omega)) _)
      · first | (simp; done) | omega | (simp; omega)
    have hzw4 : w.heap.size < w4.heap.size := by have := hb.size; (try simp at this); omega
    clear hb
    go_wp2_with fail
    refine (S2.out _ (HS.out.below HBw4.out)).mono ?_
    rintro e w5 ⟨rfl, hb⟩
    obtain ⟨hcw5, hfw5⟩ := bcell hb
    have HBw5 : Hid (Below w.heap.size w w5) := by
      apply Lib.hid
      refine Below.trans ?_ (hb.mono ?_)
      · repeat (first | exact Below.refl _ _ | exact HBw4.out | refine Below.setCell ?_ (by first | (simp; done) | omega | (simp; omega)) _ | refine Below.alloc ?_ (by first | (simp; done) | omega | (simp; omega)) _)
      · first | (simp; done) | omega | (simp; omega)
    have hzw5 : w.heap.size < w5.heap.size := by have := hb.size; (try simp at this); omega
    clear hb
    go_wp2_with fail
    refine (D2.out _).mono ?_
    rintro e w6 ⟨rfl, hb⟩
    obtain ⟨hcw6, hfw6⟩ := bcell hb
    have HBw6 : Hid (Below w.heap.size w w6) := by
      apply Lib.hid
      refine Below.trans ?_ (hb.mono ?_)
      · repeat (first | exact Below.refl _ _ | exact HBw5.out | refine Below.setCell ?_ (by first | (simp; done) | omega | (simp; omega)) _ | refine Below.alloc ?_ (by first | (simp; done) | omega | (simp; omega)) _)
      · first | (simp; done) | omega | (simp; omega)
    have hzw6 : w.heap.size < w6.heap.size := by have := hb.size; (try simp at this); omega
    clear hb
    go_wp2_with fail
    refine (NN.out _).mono ?_
    rintro e w' ⟨rfl, rfl⟩
    go_wp2_with fail
    go_ret2
    exact ⟨rfl, HBw6.out⟩

set_option maxHeartbeats 1000000 in
theorem implSea_any (d m : Int) (w : World) (hs : SinesOK w) :
    Calls Tryd.prog 11 #[.agg #[.int .i64 d, .int .i64 m]] w fun e w' => e = .returned (seaV d m) ∧ Below w.heap.size w w' := by
  have HS := Lib.hid hs
  clear hs
  have S := Lib.hid (fun w hs => implSun_any d m w hs)
  unfold seaV
  unfold sunV at S
  cases ho : okM d m with
  | false =>
    rw [if_neg (by simp)]
    rw [ho, if_neg (by simp)] at S
    clear ho
    go_enter Tryd.func11, Tryd.ntmps11
    go_wp2_with fail
    refine (S.out _ (HS.out.below ((Below.refl _ _).alloc (Nat.le_refl _) _))).mono ?_
    rintro e w1 ⟨rfl, hb⟩
    obtain ⟨hcw1, hfw1⟩ := bcell hb
    have HBw1 : Hid (Below w.heap.size w w1) := by
      apply Lib.hid
      refine Below.trans ?_ (hb.mono ?_)
      · repeat (first | exact Below.refl _ _ | refine Below.setCell ?_ (by first | (simp; done) | omega | (simp; omega)) _ | refine Below.alloc ?_ (by first | (simp; done) | omega | (simp; omega)) _)
      · first | (simp; done) | omega | (simp; omega)
    have hzw1 : w.heap.size < w1.heap.size := by have := hb.size; (try simp at this); omega
    clear hb
    go_wp2_with fail
    go_ret2
    exact ⟨rfl, HBw1.out⟩
  | true =>
    rw [if_pos rfl]
    rw [ho, if_pos rfl] at S
    clear ho
    obtain ⟨z0, z1⟩ : 0 ≤ sunI (d * 86400000 + m) ∧ sunI (d * 86400000 + m) < 360000 := nrm_bd _
    generalize sunI (d * 86400000 + m) = z at *
    go_enter Tryd.func11, Tryd.ntmps11
    go_wp2_with fail
    refine (S.out _ (HS.out.below ((Below.refl _ _).alloc (Nat.le_refl _) _))).mono ?_
    rintro e w1 ⟨rfl, hb⟩
    obtain ⟨hcw1, hfw1⟩ := bcell hb
    have HBw1 : Hid (Below w.heap.size w w1) := by
      apply Lib.hid
      refine Below.trans ?_ (hb.mono ?_)
      · repeat (first | exact Below.refl _ _ | refine Below.setCell ?_ (by first | (simp; done) | omega | (simp; omega)) _ | refine Below.alloc ?_ (by first | (simp; done) | omega | (simp; omega)) _)
      · first | (simp; done) | omega | (simp; omega)
    have hzw1 : w.heap.size < w1.heap.size := by have := hb.size; (try simp at this); omega
    clear hb
    go_wp2_with fail
    go_ret2
    exact ⟨rfl, HBw1.out⟩
end Go.Proofs.YtcehiagpknmmeaaDoor
