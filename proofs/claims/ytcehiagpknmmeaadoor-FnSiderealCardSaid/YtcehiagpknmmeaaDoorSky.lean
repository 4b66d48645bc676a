/-
  The turning sky: the contracts of turned, SiderealAngle (package impl), l03Turned, l03Angle, l03Sidereal, SiderealAngle (package spec).
-/
import Derived.Test.YtcehiagpknmmeaaDoorMomM
import Derived.Test.YtcehiagpknmmeaaDoorNrm
namespace Go.Proofs.YtcehiagpknmmeaaDoor
open Go.RowKit
set_option linter.unusedVariables false

def trn (x : Int) : Int := x / 240 + x * 985647 / 86400000000
theorem trn_mono {x y : Int} (h : x ≤ y) : trn x ≤ trn y := by
  unfold trn
  exact Int.add_le_add (Int.ediv_le_ediv (by decide) h) (Int.ediv_le_ediv (by decide) (by omega))
theorem trn_bd (x : Int) (h0 : 0 ≤ x) (h1 : x ≤ 8640086400000) : 0 ≤ trn x ∧ trn x ≤ 40000000000 := by
  unfold trn
  have a : 0 ≤ x * 985647 := by omega
  have b : x * 985647 ≤ 8640086400000 * 985647 := by omega
  generalize x * 985647 = p at *
  omega
def sidI (d m lon : Int) : Int := nrm (99968 + lon + trn (d * 86400000 + m))
def sidV (d m lon : Int) : Value := if okM d m = true then (if inR 0 359999 [lon] = true then .tuple #[.int .i64 (sidI d m lon), .int .i64 0] else .tuple #[.int .i64 0, .int .i64 2]) else .tuple #[.int .i64 0, .int .i64 1]
theorem sidV_form (d m lon : Int) : ∃ x y : Int, sidV d m lon = .tuple #[.int .i64 x, .int .i64 y] := by
  unfold sidV
  split
  · split
    · exact ⟨_, _, rfl⟩
    · exact ⟨_, _, rfl⟩
  · exact ⟨_, _, rfl⟩

set_option maxHeartbeats 400000 in
theorem turned_any (x : Int) (h0 : 0 ≤ x) (h1 : x ≤ 8640086400000) (w : World) :
    Calls Tryd.prog 19 #[.int .i64 x] w fun e w' => e = .returned (.int .i64 (trn x)) ∧ w = w' := by
  unfold trn
  go_enter Tryd.func19, Tryd.ntmps19
  go_wp2_with fail
  go_ret
  exact ⟨rfl, rfl⟩

set_option maxHeartbeats 400000 in
theorem implNrm_any (a : Int) (w : World) (h0 : -9223372036854775808 ≤ a) (h1 : a ≤ 9223372036854775807) :
    Calls Tryd.prog 18 #[.int .i64 a] w fun e w' => e = .returned (.int .i64 (nrm a)) ∧ w = w' := by
  go_enter Tryd.func18, Tryd.ntmps18
  go_wp2_with fail
  refine (normal_any _ _ h0 h1).mono ?_
  rintro e w' ⟨rfl, rfl⟩
  go_wp2_with fail
  go_ret
  exact ⟨rfl, rfl⟩
set_option maxHeartbeats 1000000 in
theorem implSid_any (d m lon : Int) (w : World) :
    Calls Tryd.prog 7 #[.agg #[.int .i64 d, .int .i64 m], .int .i64 lon] w fun e w' => e = .returned (sidV d m lon) ∧ Below w.heap.size w w' := by
  unfold sidV
  have V := Lib.hid (fun w => valid_any d m w)
  cases ho : okM d m with
  | false =>
    rw [if_neg (by simp)]
    rw [ho] at V
    clear ho
    go_enter Tryd.func7, Tryd.ntmps7
    go_wp2_with fail
    refine (V.out _).mono ?_
    rintro e w1 ⟨rfl, hb⟩
    obtain ⟨hcw1, hfw1⟩ := bcell hb
    have HBw1 : Hid (Below w.heap.size w w1) := by
      apply Lib.hid
      refine Below.trans ?_ (hb.mono ?_)
      · repeat (first | exact Below.refl _ _ | refine Below.setCell ?_ (by first | (simp; done) | omega | (simp; omega)) _ | refine Below.alloc ?_ (by first | (simp; done) | omega | (simp; omega)) _)
      · first | (simp; done) | omega | (simp; omega)
    have hzw1 : w.heap.size < w1.heap.size := by have := hb.size; (try simp at this); omega
    clear hb
    go_wp2_with fail
    go_ret2
    exact ⟨rfl, HBw1.out⟩
  | true =>
    rw [if_pos rfl]
    obtain ⟨⟨d0, d1⟩, m0, m1⟩ := okM_bd d m ho
    rw [ho] at V
    clear ho
    cases hi : inR 0 359999 [lon] with
    | false =>
      rw [if_neg (by simp)]
      have HI := Lib.hid hi
      clear hi
      go_enter Tryd.func7, Tryd.ntmps7
      go_wp2_with fail
      refine (V.out _).mono ?_
      rintro e w1 ⟨rfl, hb⟩
      obtain ⟨hcw1, hfw1⟩ := bcell hb
      have HBw1 : Hid (Below w.heap.size w w1) := by
        apply Lib.hid
        refine Below.trans ?_ (hb.mono ?_)
        · repeat (first | exact Below.refl _ _ | refine Below.setCell ?_ (by first | (simp; done) | omega | (simp; omega)) _ | refine Below.alloc ?_ (by first | (simp; done) | omega | (simp; omega)) _)
        · first | (simp; done) | omega | (simp; omega)
      have hzw1 : w.heap.size < w1.heap.size := by have := hb.size; (try simp at this); omega
      clear hb
      go_wp2_with fail
      refine (within1 _ _ lon _ _ _ (by simp)).mono ?_
      rintro e w' ⟨rfl, rfl⟩
      rw [HI.out]
      go_wp2_with fail
      go_ret2
      exact ⟨rfl, by repeat (first | exact Below.refl _ _ | exact HBw1.out | refine Below.setCell ?_ (by first | (simp; done) | omega | (simp; omega)) _ | refine Below.alloc ?_ (by first | (simp; done) | omega | (simp; omega)) _)⟩
    | true =>
      rw [if_pos rfl]
      obtain ⟨l0, l1⟩ := (inR_1 _ _ _).1 hi
      have HI := Lib.hid hi
      clear hi
      unfold sidI
      obtain ⟨t0, t1⟩ := trn_bd (d * 86400000 + m) (by omega) (by omega)
      have T := Lib.hid (fun w => turned_any (d * 86400000 + m) (by omega) (by omega) w)
      have M := Lib.hid (fun w => millis_any d m d0 d1 m0 m1 w)
      generalize trn (d * 86400000 + m) = t at *
      have NN := Lib.hid (fun w => implNrm_any (99968 + lon + t) w (by omega) (by omega))
      generalize nrm (99968 + lon + t) = z at *
      go_enter Tryd.func7, Tryd.ntmps7
      go_wp2_with fail
      refine (V.out _).mono ?_
      rintro e w1 ⟨rfl, hb⟩
      obtain ⟨hcw1, hfw1⟩ := bcell hb
      have HBw1 : Hid (Below w.heap.size w w1) := by
        apply Lib.hid
        refine Below.trans ?_ (hb.mono ?_)
        · repeat (first | exact Below.refl _ _ | refine Below.setCell ?_ (by first | (simp; done) | omega | (simp; omega)) _ | refine Below.alloc ?_ (by first | (simp; done) | omega | (simp; omega)) _)
        · first | (simp; done) | omega | (simp; omega)
      have hzw1 : w.heap.size < w1.heap.size := by have := hb.size; (try simp at this); omega
      clear hb
      go_wp2_with fail
      refine (within1 _ _ lon _ _ _ (by simp)).mono ?_
      rintro e w' ⟨rfl, rfl⟩
      rw [HI.out]
      go_wp2_with fail
      refine (M.out _).mono ?_
      rintro e w2 ⟨rfl, hb⟩
      obtain ⟨hcw2, hfw2⟩ := bcell hb
      have HBw2 : Hid (Below w.heap.size w w2) := by
        apply Lib.hid
        refine Below.trans ?_ (hb.mono ?_)
        · repeat (first | exact Below.refl _ _ | exact HBw1.out | refine Below.setCell ?_ (by first | (simp; done) | omega | (simp; omega)) _ | refine Below.alloc ?_ (by first | (simp; done) | omega | (simp; omega)) _)
        · first | (simp; done) | omega | (simp; omega)
      have hzw2 : w.heap.size < w2.heap.size := by have := hb.size; (try simp at this); omega
      clear hb
      go_wp2_with fail
      refine (T.out _).mono ?_
      rintro e w' ⟨rfl, rfl⟩
      go_wp2_with fail
      refine (NN.out _).mono ?_
      rintro e w' ⟨rfl, rfl⟩
      go_wp2_with fail
      go_ret2
      exact ⟨rfl, HBw2.out⟩

end Go.Proofs.YtcehiagpknmmeaaDoor
