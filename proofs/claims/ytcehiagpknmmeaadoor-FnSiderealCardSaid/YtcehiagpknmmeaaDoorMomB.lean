/-
  Moments after some time, times between moments: the contracts of momentOf, MomentAfter, MilliBetween (package impl), l03Most, l03At, MomentAfter, MilliBetween (package spec).
-/
import Derived.Test.YtcehiagpknmmeaaDoorMomM
namespace Go.Proofs.YtcehiagpknmmeaaDoor
open Go.RowKit
set_option linter.unusedVariables false

def momAt (x : Int) : Value := .agg #[.int .i64 (x / 86400000), .int .i64 (x % 86400000)]
def mom0 : Value := .agg #[.int .i64 0, .int .i64 0]
def momV (x : Int) : Value := if inR 0 8639999999999 [x] = true then .tuple #[.agg #[.int .i64 (x / 86400000), .int .i64 (x % 86400000)], .int .i64 0] else .tuple #[.agg #[.int .i64 0, .int .i64 0], .int .i64 6]
def afterV (d m x : Int) : Value :=
  if okM d m = true then (if inR (-8640000000000) 8640000000000 [x] = true then momV (d * 86400000 + m + x) else .tuple #[.agg #[.int .i64 0, .int .i64 0], .int .i64 2]) else .tuple #[.agg #[.int .i64 0, .int .i64 0], .int .i64 1]
theorem momV_form (x : Int) : ∃ p q r : Int, momV x = .tuple #[.agg #[.int .i64 p, .int .i64 q], .int .i64 r] := by
  unfold momV
  split
  · exact ⟨_, _, _, rfl⟩
  · exact ⟨_, _, _, rfl⟩

set_option maxHeartbeats 400000 in
theorem momentOf_any (x : Int) (w : World) :
    Calls Tryd.prog 23 #[.int .i64 x] w fun e w' => e = .returned (momV x) ∧ Below w.heap.size w w' := by
  unfold momV
  cases hin : inR 0 8639999999999 [x] with
  | false =>
    rw [if_neg (by simp)]
    have HI := Lib.hid hin
    clear hin
    go_enter Tryd.func23, Tryd.ntmps23
    go_wp2_with fail
    refine (within1 _ _ x _ _ _ (by simp)).mono ?_
    rintro e w' ⟨rfl, rfl⟩
    rw [HI.out]
    go_wp2_with fail
    refine bodyPost_ret (v := .tuple #[.agg #[.int .i64 0, .int .i64 0], .int .i64 6]) (by first | (simp [results, Tryd.results23, go_sem]; done) | (simp [results, Tryd.results23, go_sem]; done)) rfl ⟨rfl, ?_⟩
    repeat (first | exact Below.refl _ _ | refine Below.setCell ?_ (by first | (simp; done) | omega | (simp; omega)) _ | refine Below.alloc ?_ (by first | (simp; done) | omega | (simp; omega)) _)
  | true =>
    rw [if_pos rfl]
    obtain ⟨x0, x1⟩ := (inR_1 _ _ _).1 hin
    have HI := Lib.hid hin
    clear hin
    go_enter Tryd.func23, Tryd.ntmps23
    go_wp2_with fail
    refine (within1 _ _ x _ _ _ (by simp)).mono ?_
    rintro e w' ⟨rfl, rfl⟩
    rw [HI.out]
    go_wp2_with fail
    refine bodyPost_ret (v := .tuple #[.agg #[.int .i64 (x / 86400000), .int .i64 (x % 86400000)], .int .i64 0]) (by first | (simp [results, Tryd.results23, go_sem]; done) | (simp [results, Tryd.results23, go_sem]; done)) rfl ⟨rfl, ?_⟩
    repeat (first | exact Below.refl _ _ | refine Below.setCell ?_ (by first | (simp; done) | omega | (simp; omega)) _ | refine Below.alloc ?_ (by first | (simp; done) | omega | (simp; omega)) _)

set_option maxHeartbeats 400000 in
theorem l03At_any (x : Int) (x0 : 0 ≤ x) (x1 : x ≤ 9000000000000) (w : World) :
    Calls Tryd.prog 30 #[.int .i64 x] w fun e w' => e = .returned (.agg #[.int .i64 (x / 86400000), .int .i64 (x % 86400000)]) ∧ Below w.heap.size w w' := by
  go_enter Tryd.func30, Tryd.ntmps30
  go_wp2_with fail
  refine bodyPost_ret (v := .agg #[.int .i64 (x / 86400000), .int .i64 (x % 86400000)]) (by first | (simp [results, Tryd.results30, go_sem]; done) | (simp [results, Tryd.results30, go_sem]; done)) rfl ⟨rfl, ?_⟩
  repeat (first | exact Below.refl _ _ | refine Below.setCell ?_ (by first | (simp; done) | omega | (simp; omega)) _ | refine Below.alloc ?_ (by first | (simp; done) | omega | (simp; omega)) _)

set_option maxHeartbeats 400000 in
theorem l03Most_any (w : World) :
    Calls Tryd.prog 29 #[] w fun e w' => e = .returned (.int .i64 8640000000000) ∧ w = w' := by
  go_enter Tryd.func29, Tryd.ntmps29
  go_wp2_with fail
  go_ret
  exact ⟨rfl, rfl⟩

set_option maxHeartbeats 1000000 in
theorem specAfter_any (d m x : Int) (w : World) :
    Calls Tryd.prog 12 #[.agg #[.int .i64 d, .int .i64 m], .int .i64 x] w fun e w' => e = .returned (afterV d m x) ∧ Below w.heap.size w w' := by
  unfold afterV
  have V := Lib.hid (fun w => l03Ok_any d m w)
  cases ho : okM d m with
  | false =>
    rw [if_neg (by simp)]
    rw [ho] at V
    clear ho
    go_enter Tryd.func12, Tryd.ntmps12
    go_wp2_with fail
    refine (V.out _).mono ?_
    rintro e w1 ⟨rfl, hb⟩
    obtain ⟨hcw1, hfw1⟩ := bcell hb
    have HBw1 : Hid (Below w.heap.size w w1) := by
      apply Lib.hid
      refine Below.trans ?_ (hb.mono ?_)
      · repeat (first | exact Below.refl _ _ | refine Below.setCell ?_ (by first | (simp; done) | omega | (simp; omega)) _ | refine Below.alloc ?_ (by first | (simp; done) | omega | (simp; omega)) _)
      · first | (simp; done) | omega | (simp; omega)
    have hzw1 : w.heap.size + 1 < w1.heap.size := by have := hb.size; (try simp at this); omega
    have hyw1 : w.heap.size < w1.heap.size := by omega
    clear hb
    go_wp2_with fail
    refine bodyPost_ret (v := .tuple #[.agg #[.int .i64 0, .int .i64 0], .int .i64 1]) (by first | (simp [results, Tryd.results12, go_sem]; done) | (simp [results, Tryd.results12, go_sem, hcw1, hfw1, hzw1, hyw1]; done)) rfl ⟨rfl, ?_⟩
    repeat (first | exact Below.refl _ _ | exact HBw1.out | refine Below.setCell ?_ (by first | (simp; done) | omega | (simp; omega)) _ | refine Below.alloc ?_ (by first | (simp; done) | omega | (simp; omega)) _)
  | true =>
    rw [if_pos rfl]
    obtain ⟨⟨d0, d1⟩, m0, m1⟩ := okM_bd d m ho
    rw [ho] at V
    clear ho
    cases hi : inR (-8640000000000) 8640000000000 [x] with
    | false =>
      rw [if_neg (by simp)]
      have HI := Lib.hid hi
      clear hi
      go_enter Tryd.func12, Tryd.ntmps12
      go_wp2_with fail
      refine (V.out _).mono ?_
      rintro e w1 ⟨rfl, hb⟩
      obtain ⟨hcw1, hfw1⟩ := bcell hb
      have HBw1 : Hid (Below w.heap.size w w1) := by
        apply Lib.hid
        refine Below.trans ?_ (hb.mono ?_)
        · repeat (first | exact Below.refl _ _ | refine Below.setCell ?_ (by first | (simp; done) | omega | (simp; omega)) _ | refine Below.alloc ?_ (by first | (simp; done) | omega | (simp; omega)) _)
        · first | (simp; done) | omega | (simp; omega)
      have hzw1 : w.heap.size + 1 < w1.heap.size := by have := hb.size; (try simp at this); omega
      have hyw1 : w.heap.size < w1.heap.size := by omega
      clear hb
      go_wp2_with fail
      refine (l03Most_any _).mono ?_
      rintro e w' ⟨rfl, rfl⟩
      go_wp2_with fail
      refine (l03Most_any _).mono ?_
      rintro e w' ⟨rfl, rfl⟩
      go_wp2_with fail
      refine (l00In_any _ _ _ _).mono ?_
      rintro e w' ⟨rfl, rfl⟩
      rw [HI.out]
      go_wp2_with fail
      refine bodyPost_ret (v := .tuple #[.agg #[.int .i64 0, .int .i64 0], .int .i64 2]) (by first | (simp [results, Tryd.results12, go_sem]; done) | (simp [results, Tryd.results12, go_sem, hcw1, hfw1, hzw1, hyw1]; done)) rfl ⟨rfl, ?_⟩
      repeat (first | exact Below.refl _ _ | exact HBw1.out | refine Below.setCell ?_ (by first | (simp; done) | omega | (simp; omega)) _ | refine Below.alloc ?_ (by first | (simp; done) | omega | (simp; omega)) _)
    | true =>
      rw [if_pos rfl]
      obtain ⟨x0, x1⟩ := (inR_1 _ _ _).1 hi
      have HI := Lib.hid hi
      clear hi
      unfold momV
      cases hk : inR 0 8639999999999 [d * 86400000 + m + x] with
      | false =>
        have K := Lib.hid hk
        rw [if_neg (by simp)]
        clear hk
        go_enter Tryd.func12, Tryd.ntmps12
        go_wp2_with fail
        refine (V.out _).mono ?_
        rintro e w1 ⟨rfl, hb⟩
        obtain ⟨hcw1, hfw1⟩ := bcell hb
        have HBw1 : Hid (Below w.heap.size w w1) := by
          apply Lib.hid
          refine Below.trans ?_ (hb.mono ?_)
          · repeat (first | exact Below.refl _ _ | refine Below.setCell ?_ (by first | (simp; done) | omega | (simp; omega)) _ | refine Below.alloc ?_ (by first | (simp; done) | omega | (simp; omega)) _)
          · first | (simp; done) | omega | (simp; omega)
        have hzw1 : w.heap.size + 1 < w1.heap.size := by have := hb.size; (try simp at this); omega
        have hyw1 : w.heap.size < w1.heap.size := by omega
        clear hb
        go_wp2_with fail
        refine (l03Most_any _).mono ?_
        rintro e w' ⟨rfl, rfl⟩
        go_wp2_with fail
        refine (l03Most_any _).mono ?_
        rintro e w' ⟨rfl, rfl⟩
        go_wp2_with fail
        refine (l00In_any _ _ _ _).mono ?_
        rintro e w' ⟨rfl, rfl⟩
        rw [HI.out]
        go_wp2_with fail
        refine (l03All_any d m d0 d1 m0 m1 _).mono ?_
        rintro e w2 ⟨rfl, hb⟩
        obtain ⟨hcw2, hfw2⟩ := bcell hb
        have HBw2 : Hid (Below w.heap.size w w2) := by
          apply Lib.hid
          refine Below.trans ?_ (hb.mono ?_)
          · repeat (first | exact Below.refl _ _ | exact HBw1.out | refine Below.setCell ?_ (by first | (simp; done) | omega | (simp; omega)) _ | refine Below.alloc ?_ (by first | (simp; done) | omega | (simp; omega)) _)
          · first | (simp; done) | omega | (simp; omega)
        have hzw2 : w.heap.size + 1 < w2.heap.size := by have := hb.size; (try simp at this); omega
        have hyw2 : w.heap.size < w2.heap.size := by omega
        clear hb
        go_wp2_with fail
        refine (l03Most_any _).mono ?_
        rintro e w' ⟨rfl, rfl⟩
        go_wp2_with fail
        refine (l00In_any _ _ _ _).mono ?_
        rintro e w' ⟨rfl, rfl⟩
        rw [K.out]
        go_wp2_with fail
        refine bodyPost_ret (v := .tuple #[.agg #[.int .i64 0, .int .i64 0], .int .i64 6]) (by first | (simp [results, Tryd.results12, go_sem]; done) | (simp [results, Tryd.results12, go_sem, hcw1, hfw1, hcw2, hfw2, hzw1, hzw2, hyw1, hyw2]; done)) rfl ⟨rfl, ?_⟩
        repeat (first | exact Below.refl _ _ | exact HBw2.out | refine Below.setCell ?_ (by first | (simp; done) | omega | (simp; omega)) _ | refine Below.alloc ?_ (by first | (simp; done) | omega | (simp; omega)) _)
      | true =>
        have K := Lib.hid hk
        rw [if_pos rfl]; obtain ⟨y0, y1⟩ := (inR_1 _ _ _).1 hk
        clear hk
        go_enter Tryd.func12, Tryd.ntmps12
        go_wp2_with fail
        refine (V.out _).mono ?_
        rintro e w1 ⟨rfl, hb⟩
        obtain ⟨hcw1, hfw1⟩ := bcell hb
        have HBw1 : Hid (Below w.heap.size w w1) := by
          apply Lib.hid
          refine Below.trans ?_ (hb.mono ?_)
          · repeat (first | exact Below.refl _ _ | refine Below.setCell ?_ (by first | (simp; done) | omega | (simp; omega)) _ | refine Below.alloc ?_ (by first | (simp; done) | omega | (simp; omega)) _)
          · first | (simp; done) | omega | (simp; omega)
        have hzw1 : w.heap.size + 1 < w1.heap.size := by have := hb.size; (try simp at this); omega
        have hyw1 : w.heap.size < w1.heap.size := by omega
        clear hb
        go_wp2_with fail
        refine (l03Most_any _).mono ?_
        rintro e w' ⟨rfl, rfl⟩
        go_wp2_with fail
        refine (l03Most_any _).mono ?_
        rintro e w' ⟨rfl, rfl⟩
        go_wp2_with fail
        refine (l00In_any _ _ _ _).mono ?_
        rintro e w' ⟨rfl, rfl⟩
        rw [HI.out]
        go_wp2_with fail
        refine (l03All_any d m d0 d1 m0 m1 _).mono ?_
        rintro e w2 ⟨rfl, hb⟩
        obtain ⟨hcw2, hfw2⟩ := bcell hb
        have HBw2 : Hid (Below w.heap.size w w2) := by
          apply Lib.hid
          refine Below.trans ?_ (hb.mono ?_)
          · repeat (first | exact Below.refl _ _ | exact HBw1.out | refine Below.setCell ?_ (by first | (simp; done) | omega | (simp; omega)) _ | refine Below.alloc ?_ (by first | (simp; done) | omega | (simp; omega)) _)
          · first | (simp; done) | omega | (simp; omega)
        have hzw2 : w.heap.size + 1 < w2.heap.size := by have := hb.size; (try simp at this); omega
        have hyw2 : w.heap.size < w2.heap.size := by omega
        clear hb
        go_wp2_with fail
        refine (l03Most_any _).mono ?_
        rintro e w' ⟨rfl, rfl⟩
        go_wp2_with fail
        refine (l00In_any _ _ _ _).mono ?_
        rintro e w' ⟨rfl, rfl⟩
        rw [K.out]
        go_wp2_with fail
        refine (l03At_any _ (by omega) (by omega) _).mono ?_
        rintro e w3 ⟨rfl, hb⟩
        obtain ⟨hcw3, hfw3⟩ := bcell hb
        have HBw3 : Hid (Below w.heap.size w w3) := by
          apply Lib.hid
          refine Below.trans ?_ (hb.mono ?_)
          · repeat (first | exact Below.refl _ _ | exact HBw2.out | refine Below.setCell ?_ (by first | (simp; done) | omega | (simp; omega)) _ | refine Below.alloc ?_ (by first | (simp; done) | omega | (simp; omega)) _)
          · first | (simp; done) | omega | (simp; omega)
        have hzw3 : w.heap.size + 1 < w3.heap.size := by have := hb.size; (try simp at this); omega
        have hyw3 : w.heap.size < w3.heap.size := by omega
        clear hb
        go_wp2_with fail
        refine bodyPost_ret (v := .tuple #[.agg #[.int .i64 ((d * 86400000 + m + x) / 86400000), .int .i64 ((d * 86400000 + m + x) % 86400000)], .int .i64 0]) (by first | (simp [results, Tryd.results12, go_sem]; done) | (simp [results, Tryd.results12, go_sem, hcw1, hfw1, hcw2, hfw2, hcw3, hfw3, hzw1, hzw2, hzw3, hyw1, hyw2, hyw3]; done)) rfl ⟨rfl, ?_⟩
        repeat (first | exact Below.refl _ _ | exact HBw3.out | refine Below.setCell ?_ (by first | (simp; done) | omega | (simp; omega)) _ | refine Below.alloc ?_ (by first | (simp; done) | omega | (simp; omega)) _)
end Go.Proofs.YtcehiagpknmmeaaDoor
