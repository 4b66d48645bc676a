/-
  Projectors: the contracts of toProjector, eqProjector, szProjector (package laws), l06Turn, l06Latitude, l10One (package spec).
-/
import Derived.Test.YtlklcpnnaolbeaaGreatDoorNam
import Derived.Test.YtlklcpnnaolbeaaGreatDoorProjA
import Derived.Test.YtlklcpnnaolbeaaGreatDoorVec0
import Derived.Test.YtlklcpnnaolbeaaGreatDoorDirV
import Derived.RegionTactic
import Derived.Deep.QuietTactic
import Derived.BigQuiet
import Derived.Deep.Draws
namespace Go.Proofs.YtlklcpnnaolbeaaGreatDoor
open Go.RowKit
set_option linter.unusedVariables false

def starB (s : ByteArray) (a b c d : Int) : Bool := nameB s.data.toList && (inR 0 359999 [a] && (inR (-90000) 90000 [b] && (inR 5000 120000 [c] && inR 1 1000 [d])))
def StarV.good (x : StarV) : Bool := starB x.s x.a x.b x.c x.d
theorem starB_bd {s : ByteArray} {a b c d : Int} (h : starB s a b c d = true) : (0 ≤ a ∧ a ≤ 359999) ∧ (-90000 ≤ b ∧ b ≤ 90000) ∧ (5000 ≤ c ∧ c ≤ 120000) ∧ 1 ≤ d ∧ d ≤ 1000 := by
  unfold starB at h
  simp only [Bool.and_eq_true, inR_1] at h
  exact h.2

set_option maxHeartbeats 400000 in
theorem l06Lat_any (a : Int) (w : World) :
    Calls Tryz.prog 80 #[.int .i64 a] w fun e w' => e = .returned (.bool (inR (-90000) 90000 [a])) ∧ w = w' := by
  go_enter Tryz.func80, Tryz.ntmps80
  go_wp2_with fail
  refine (l00In_any _ _ _ _).mono ?_
  rintro e w' ⟨rfl, rfl⟩
  go_wp2_with fail
  go_ret
  exact ⟨rfl, rfl⟩
set_option maxHeartbeats 400000 in
theorem l06Turn_any (a : Int) (w : World) :
    Calls Tryz.prog 47 #[.int .i64 a] w fun e w' => e = .returned (.bool (inR 0 359999 [a])) ∧ w = w' := by
  go_enter Tryz.func47, Tryz.ntmps47
  go_wp2_with fail
  refine (l00In_any _ _ _ _).mono ?_
  rintro e w' ⟨rfl, rfl⟩
  go_wp2_with fail
  go_ret
  exact ⟨rfl, rfl⟩

theorem bel_drewNS {B : Nat} {a w : World} (h : Below B a w) (n : Nat) : Below B a (w.drewN n) := ⟨h.os, h.tape, h.output, h.size, h.block⟩
theorem quiet_leftS {P : Program} {f : FuncId} {args : Array Value} {w : World} {n : Nat} {v : Value}
    (h : Calls P f args (w.drewN n) fun e w' => e = .returned v ∧ w.drewN n = w') : Calls P f args (w.drewN n) fun e w'' => e = .returned v ∧ ∃ m, w'' = w.drewN m :=
  h.mono fun _ _ ⟨he, hm⟩ => ⟨he, n, hm.symm⟩

set_option maxHeartbeats 1000000 in
theorem l10One_at (g o : Nat) (x : StarV) (w : World) (h : StarAt w g o x) :
    Calls Tryz.prog 46 #[.pointer (some ⟨g, o, none⟩)] w fun e w' => e = .returned (.bool x.good) ∧ ∃ m, w' = w.drewN m := by
  unfold StarV.good starB
  obtain ⟨s, a, b, c, d⟩ := x
  obtain ⟨c0, c1, c2, c3, c4⟩ := h
  simp only at c0 c1 c2 c3 c4 ⊢
  have I1 := Lib.hid (fun w => l01Name_any s w)
  have I2 := Lib.hid (fun w => l06Turn_any a w)
  have I3 := Lib.hid (fun w => l06Lat_any b w)
  have I4 := Lib.hid (fun w => l00In_any c 5000 120000 w)
  have I5 := Lib.hid (fun w => l00In_any d 1 1000 w)
  generalize nameB s.data.toList = p1 at *
  generalize inR 0 359999 [a] = p2 at *
  generalize inR (-90000) 90000 [b] = p3 at *
  generalize inR 5000 120000 [c] = p4 at *
  generalize inR 1 1000 [d] = p5 at *
  cases p1 with
  | false =>
    rw [Bool.false_and]
    go_enter Tryz.func46, Tryz.ntmps46
    go_wp2_with fail
    refine (I1.out _).mono ?_
    rintro e w' ⟨rfl, rfl⟩
    go_wp2_with fail
    go_ret
    exact ⟨rfl, 0, rfl⟩
  | true =>
    rw [Bool.true_and]
    cases p2 with
    | false =>
      rw [Bool.false_and]
      go_enter Tryz.func46, Tryz.ntmps46
      go_wp2_with fail
      refine (I1.out _).mono ?_
      rintro e w' ⟨rfl, rfl⟩
      go_wp2_with fail
      refine (I2.out _).mono ?_
      rintro e w' ⟨rfl, rfl⟩
      go_wp2_with fail
      go_ret
      exact ⟨rfl, 0, rfl⟩
    | true =>
      rw [Bool.true_and]
      cases p3 with
      | false =>
        rw [Bool.false_and]
        go_enter Tryz.func46, Tryz.ntmps46
        go_wp2_with fail
        refine (I1.out _).mono ?_
        rintro e w' ⟨rfl, rfl⟩
        go_wp2_with fail
        refine (I2.out _).mono ?_
        rintro e w' ⟨rfl, rfl⟩
        go_wp2_with fail
        refine (I3.out _).mono ?_
        rintro e w' ⟨rfl, rfl⟩
        go_wp2_with fail
        go_ret
        exact ⟨rfl, 0, rfl⟩
      | true =>
        rw [Bool.true_and]
        cases p4 with
        | false =>
          rw [Bool.false_and]
          go_enter Tryz.func46, Tryz.ntmps46
          go_wp2_with fail
          refine (I1.out _).mono ?_
          rintro e w' ⟨rfl, rfl⟩
          go_wp2_with fail
          refine (I2.out _).mono ?_
          rintro e w' ⟨rfl, rfl⟩
          go_wp2_with fail
          refine (I3.out _).mono ?_
          rintro e w' ⟨rfl, rfl⟩
          go_wp2_with fail
          refine (I4.out _).mono ?_
          rintro e w' ⟨rfl, rfl⟩
          go_wp2_with fail
          go_ret
          exact ⟨rfl, 0, rfl⟩
        | true =>
          rw [Bool.true_and]
          go_enter Tryz.func46, Tryz.ntmps46
          go_wp2_with fail
          refine (I1.out _).mono ?_
          rintro e w' ⟨rfl, rfl⟩
          go_wp2_with fail
          refine (I2.out _).mono ?_
          rintro e w' ⟨rfl, rfl⟩
          go_wp2_with fail
          refine (I3.out _).mono ?_
          rintro e w' ⟨rfl, rfl⟩
          go_wp2_with fail
          refine (I4.out _).mono ?_
          rintro e w' ⟨rfl, rfl⟩
          go_wp2_with fail
          refine (I5.out _).mono ?_
          rintro e w' ⟨rfl, rfl⟩
          go_wp2_with fail
          go_ret
          exact ⟨rfl, 0, rfl⟩

set_option maxHeartbeats 1000000 in
theorem toStar_any (s : ByteArray) (a b c d : Int) (w : World) :
    Calls Tryz.prog 30 #[.agg #[.string s, .int .i64 a, .int .i64 b, .int .i64 c, .int .i64 d]] w fun e w' => e = .returned (.agg #[.string s, .int .i64 a, .int .i64 b, .int .i64 c, .int .i64 d]) ∧ Below w.heap.size w w' := by
  go_enter Tryz.func30, Tryz.ntmps30
  go_wp2_with fail
  refine bodyPost_ret (v := .agg #[.string s, .int .i64 a, .int .i64 b, .int .i64 c, .int .i64 d]) (by first | (simp [results, Tryz.results30, go_sem]; done) | (simp [results, Tryz.results30, go_sem]; done)) rfl ⟨rfl, ?_⟩
  repeat (first | exact Below.refl _ _ | refine Below.setCell ?_ (by first | (simp; done) | omega | (simp; omega)) _ | refine Below.alloc ?_ (by first | (simp; done) | omega | (simp; omega)) _ | refine bel_drew ?_)
set_option maxHeartbeats 1000000 in
theorem eqStar_same (s : ByteArray) (a b c d : Int) (w : World) :
    Calls Tryz.prog 20 #[.agg #[.string s, .int .i64 a, .int .i64 b, .int .i64 c, .int .i64 d], .agg #[.string s, .int .i64 a, .int .i64 b, .int .i64 c, .int .i64 d]] w fun e w' => e = .returned (.bool true) ∧ Below w.heap.size w w' := by
  go_enter Tryz.func20, Tryz.ntmps20
  go_wp2_with fail
  go_ret
  refine ⟨rfl, ?_⟩
  repeat (first | exact Below.refl _ _ | refine Below.setCell ?_ (by first | (simp; done) | omega | (simp; omega)) _ | refine Below.alloc ?_ (by first | (simp; done) | omega | (simp; omega)) _ | refine bel_drew ?_)
set_option maxHeartbeats 1000000 in
theorem szStar_any (s : ByteArray) (a b c d l : Int) (h0 : 0 ≤ l) (h1 : l ≤ 1048576) (hmax : s.size ≤ maxLen) (w : World) :
    Calls Tryz.prog 25 #[.agg #[.string s, .int .i64 a, .int .i64 b, .int .i64 c, .int .i64 d], .int .i64 l] w fun e w' => e = .returned (.int .i64 (szN s l)) ∧ Below w.heap.size w w' := by
  have hm : s.size ≤ 9223372036854775807 := by unfold maxLen at hmax; omega
  clear hmax
  unfold szN
  by_cases h : l - (s.size : Int) < 0
  · rw [if_pos h]
    go_enter Tryz.func25, Tryz.ntmps25
    go_wp2_with fail
    go_ret
    refine ⟨rfl, ?_⟩
    repeat (first | exact Below.refl _ _ | refine Below.setCell ?_ (by first | (simp; done) | omega | (simp; omega)) _ | refine Below.alloc ?_ (by first | (simp; done) | omega | (simp; omega)) _ | refine bel_drew ?_)
  · rw [if_neg h]
    have h' : decide (l - (s.size : Int) < 0) = false := by simpa using h
    go_enter Tryz.func25, Tryz.ntmps25
    go_wp2_with fail
    go_ret
    refine ⟨rfl, ?_⟩
    repeat (first | exact Below.refl _ _ | refine Below.setCell ?_ (by first | (simp; done) | omega | (simp; omega)) _ | refine Below.alloc ?_ (by first | (simp; done) | omega | (simp; omega)) _ | refine bel_drew ?_)
end Go.Proofs.YtlklcpnnaolbeaaGreatDoor
