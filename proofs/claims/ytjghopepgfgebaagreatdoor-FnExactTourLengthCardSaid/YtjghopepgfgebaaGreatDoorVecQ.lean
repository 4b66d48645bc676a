/-
  Vectors of package impl: the contracts of length, dot, cross, validResult, LengthOf, DotOf, CrossOf.
-/
import Derived.Test.YtjghopepgfgebaaGreatDoorVecP
import Derived.Test.YtjghopepgfgebaaGreatDoorRootS
namespace Go.Proofs.YtjghopepgfgebaaGreatDoor
open Go.RowKit
set_option linter.unusedVariables false

/-- The components lie within m. -/
def inV (m x y z : Int) : Prop := (-m ≤ x ∧ x ≤ m) ∧ (-m ≤ y ∧ y ≤ m) ∧ (-m ≤ z ∧ z ≤ m)
theorem inV_ok (x y z : Int) (h : okV x y z = true) : inV 2000000 x y z := (okV_bd x y z).1 h
theorem prods_bd (m n x y z x' y' z' : Int) (h : inV m x y z) (h' : inV n x' y' z') : (-(m * n) ≤ x * x' ∧ x * x' ≤ m * n) ∧ (-(m * n) ≤ y * y' ∧ y * y' ≤ m * n) ∧ (-(m * n) ≤ z * z' ∧ z * z' ≤ m * n) := by
  obtain ⟨⟨a, b⟩, ⟨c, d⟩, e, f⟩ := h
  obtain ⟨⟨a', b'⟩, ⟨c', d'⟩, e', f'⟩ := h'
  exact ⟨pr_bd _ _ _ _ a b a' b', pr_bd _ _ _ _ c d c' d', pr_bd _ _ _ _ e f e' f'⟩
set_option maxHeartbeats 400000 in
theorem length_any (x y z : Int) (h : inV 10000000 x y z) (w : World) :
    Calls Tryz.prog 144 #[.agg #[.int .i64 x, .int .i64 y, .int .i64 z]] w fun e w' => e = .returned (.int .i64 (len3 x y z)) ∧ Below w.heap.size w w' := by
  obtain ⟨⟨a0, a1⟩, ⟨b0, b1⟩, c0, c1⟩ := prods_bd _ _ x y z x y z h h
  have R := Lib.hid (fun w => implRootI_any (x * x + y * y + z * z) w (by omega))
  have Q := Lib.hid (fun w => products_any x y z x y z w (by omega) (by omega) (by omega) (by omega) (by omega) (by omega))
  clear a0 a1 b0 b1 c0 c1 h
  unfold len3 sq3
  generalize x * x + y * y + z * z = n at *
  go_enter Tryz.func144, Tryz.ntmps144
  go_wp2_with fail
  refine (Q.out _).mono ?_
  rintro e w1 ⟨rfl, hb⟩
  have hsw1 := hb.size
  try simp at hsw1
  obtain ⟨hcw1, hfw1⟩ := bcell hb
  have HBw1 : Hid (Below w.heap.size w w1) := by
    apply Lib.hid
    refine Below.trans ?_ (hb.mono ?_)
    · repeat (first | exact Below.refl _ _ | refine Below.setCell ?_ (by first | (simp; done) | omega | (simp; omega)) _ | refine Below.alloc ?_ (by first | (simp; done) | omega | (simp; omega)) _)
    · first | (simp; done) | omega | (simp; omega)
  have hzw1 : w.heap.size < w1.heap.size := by have := hb.size; (try simp at this); omega
  clear hb
  go_wp2_with fail
  refine (R.out _).mono ?_
  rintro e w' ⟨rfl, rfl⟩
  go_wp2_with fail
  go_ret
  refine ⟨rfl, ?_⟩
  repeat (first | exact Below.refl _ _ | exact HBw1.out | refine Below.setCell ?_ (by first | (simp; done) | omega | (simp; omega)) _ | refine Below.alloc ?_ (by first | (simp; done) | omega | (simp; omega)) _ | refine bel_drew ?_)
def dotI (x y z x' y' z' : Int) : Int := nearQ (x * x' + y * y' + z * z') 1000000
set_option maxHeartbeats 400000 in
theorem dot_any (x y z x' y' z' : Int) (h : inV 2000000 x y z) (h' : inV 2000000 x' y' z') (w : World) :
    Calls Tryz.prog 145 #[.agg #[.int .i64 x, .int .i64 y, .int .i64 z], .agg #[.int .i64 x', .int .i64 y', .int .i64 z']] w fun e w' => e = .returned (.int .i64 (dotI x y z x' y' z')) ∧ Below w.heap.size w w' := by
  obtain ⟨⟨a0, a1⟩, ⟨b0, b1⟩, c0, c1⟩ := prods_bd _ _ x y z x' y' z' h h'
  have R := Lib.hid (fun w => nearest_any (x * x' + y * y' + z * z') 1000000 w (by omega) (by omega) (by omega) (by omega))
  have Q := Lib.hid (fun w => products_any x y z x' y' z' w (by omega) (by omega) (by omega) (by omega) (by omega) (by omega))
  clear a0 a1 b0 b1 c0 c1 h h'
  unfold dotI
  generalize nearQ (x * x' + y * y' + z * z') 1000000 = r at *
  generalize x * x' + y * y' + z * z' = n at *
  go_enter Tryz.func145, Tryz.ntmps145
  go_wp2_with fail
  refine (Q.out _).mono ?_
  rintro e w1 ⟨rfl, hb⟩
  have hsw1 := hb.size
  try simp at hsw1
  obtain ⟨hcw1, hfw1⟩ := bcell hb
  have HBw1 : Hid (Below w.heap.size w w1) := by
    apply Lib.hid
    refine Below.trans ?_ (hb.mono ?_)
    · repeat (first | exact Below.refl _ _ | refine Below.setCell ?_ (by first | (simp; done) | omega | (simp; omega)) _ | refine Below.alloc ?_ (by first | (simp; done) | omega | (simp; omega)) _)
    · first | (simp; done) | omega | (simp; omega)
  have hzw1 : w.heap.size + 1 < w1.heap.size := by have := hb.size; (try simp at this); omega
  have hyw1 : w.heap.size < w1.heap.size := by have := hb.size; (try simp at this); omega
  clear hb
  go_wp2_with fail
  refine (R.out _).mono ?_
  rintro e w2 ⟨rfl, hb⟩
  have hsw2 := hb.size
  try simp at hsw2
  obtain ⟨hcw2, hfw2⟩ := bcell hb
  have HBw2 : Hid (Below w.heap.size w w2) := by
    apply Lib.hid
    refine Below.trans ?_ (hb.mono ?_)
    · repeat (first | exact Below.refl _ _ | exact HBw1.out | refine Below.setCell ?_ (by first | (simp; done) | omega | (simp; omega)) _ | refine Below.alloc ?_ (by first | (simp; done) | omega | (simp; omega)) _)
    · first | (simp; done) | omega | (simp; omega)
  have hzw2 : w.heap.size + 1 < w2.heap.size := by have := hb.size; (try simp at this); omega
  have hyw2 : w.heap.size < w2.heap.size := by have := hb.size; (try simp at this); omega
  clear hb
  first | (have gsw2w1 : w1.heap.size < w2.heap.size := by omega) | skip
  go_wp2_with fail
  go_ret
  refine ⟨rfl, ?_⟩
  repeat (first | exact Below.refl _ _ | exact HBw2.out | refine Below.setCell ?_ (by first | (simp; done) | omega | (simp; omega)) _ | refine Below.alloc ?_ (by first | (simp; done) | omega | (simp; omega)) _ | refine bel_drew ?_)
def crI (a b c d : Int) : Int := nearQ (a * b - c * d) 1000000
theorem crI_bd (a b c d : Int) (ha : -2000000 ≤ a ∧ a ≤ 2000000) (hb : -2000000 ≤ b ∧ b ≤ 2000000) (hc : -2000000 ≤ c ∧ c ≤ 2000000) (hd : -2000000 ≤ d ∧ d ≤ 2000000) : -8000000 ≤ crI a b c d ∧ crI a b c d ≤ 8000000 := by
  have p := pr_bd a b 2000000 2000000 ha.1 ha.2 hb.1 hb.2
  have q := pr_bd c d 2000000 2000000 hc.1 hc.2 hd.1 hd.2
  unfold crI
  by_cases h : a * b - c * d < 0
  · rw [nearQ_np _ _ h (by omega)]; omega
  · rw [nearQ_pp _ _ (by omega) (by omega)]; omega
theorem cross_in (x y z x' y' z' : Int) (h : inV 2000000 x y z) (h' : inV 2000000 x' y' z') : inV 8000000 (crI y z' z y') (crI z x' x z') (crI x y' y x') := by
  obtain ⟨a, b, c⟩ := h
  obtain ⟨a', b', c'⟩ := h'
  exact ⟨crI_bd _ _ _ _ b c' c b', crI_bd _ _ _ _ c a' a c', crI_bd _ _ _ _ a b' b a'⟩
set_option maxHeartbeats 1000000 in
theorem cross_any (x y z x' y' z' : Int) (h : inV 2000000 x y z) (h' : inV 2000000 x' y' z') (w : World) :
    Calls Tryz.prog 143 #[.agg #[.int .i64 x, .int .i64 y, .int .i64 z], .agg #[.int .i64 x', .int .i64 y', .int .i64 z']] w fun e w' => e = .returned (.agg #[.int .i64 (crI y z' z y'), .int .i64 (crI z x' x z'), .int .i64 (crI x y' y x')]) ∧ Below w.heap.size w w' := by
  obtain ⟨⟨a0, a1⟩, ⟨b0, b1⟩, c0, c1⟩ := h
  obtain ⟨⟨a0', a1'⟩, ⟨b0', b1'⟩, c0', c1'⟩ := h'
  have p1 := pr_bd y z' 2000000 2000000 b0 b1 c0' c1'
  have p2 := pr_bd z y' 2000000 2000000 c0 c1 b0' b1'
  have p3 := pr_bd z x' 2000000 2000000 c0 c1 a0' a1'
  have p4 := pr_bd x z' 2000000 2000000 a0 a1 c0' c1'
  have p5 := pr_bd x y' 2000000 2000000 a0 a1 b0' b1'
  have p6 := pr_bd y x' 2000000 2000000 b0 b1 a0' a1'
  have Q := Lib.hid (fun w => quotients_any (y * z' - z * y') (z * x' - x * z') (x * y' - y * x') 1000000 w (by omega) (by omega) (by omega) (by omega) (by omega) (by omega) (by omega) (by omega))
  have U := Lib.hid (fun w => vector_any (crI y z' z y') (crI z x' x z') (crI x y' y x') w)
  have e1 : wrap64 (wrap64 (y * z') - wrap64 (z * y')) = y * z' - z * y' := by rw [IntWalk.wrap64_in (y * z') (by omega), IntWalk.wrap64_in (z * y') (by omega), IntWalk.wrap64_in (y * z' - z * y') (by omega)]
  have e2 : wrap64 (wrap64 (z * x') - wrap64 (x * z')) = z * x' - x * z' := by rw [IntWalk.wrap64_in (z * x') (by omega), IntWalk.wrap64_in (x * z') (by omega), IntWalk.wrap64_in (z * x' - x * z') (by omega)]
  have e3 : wrap64 (wrap64 (x * y') - wrap64 (y * x')) = x * y' - y * x' := by rw [IntWalk.wrap64_in (x * y') (by omega), IntWalk.wrap64_in (y * x') (by omega), IntWalk.wrap64_in (x * y' - y * x') (by omega)]
  have E1 := Lib.hid e1
  have E2 := Lib.hid e2
  have E3 := Lib.hid e3
  clear e1 e2 e3
  clear p1 p2 p3 p4 p5 p6 a0 a1 b0 b1 c0 c1 a0' a1' b0' b1' c0' c1'
  unfold crI at *
  generalize nearQ (y * z' - z * y') 1000000 = p at *
  generalize nearQ (z * x' - x * z') 1000000 = q at *
  generalize nearQ (x * y' - y * x') 1000000 = r at *
  go_enter Tryz.func143, Tryz.ntmps143
  go_wp2_with fail
  rw [E1.out, E2.out, E3.out]
  refine (Q.out _).mono ?_
  rintro e w1 ⟨rfl, hb⟩
  have hsw1 := hb.size
  try simp at hsw1
  obtain ⟨hcw1, hfw1⟩ := bcell hb
  have HBw1 : Hid (Below w.heap.size w w1) := by
    apply Lib.hid
    refine Below.trans ?_ (hb.mono ?_)
    · repeat (first | exact Below.refl _ _ | refine Below.setCell ?_ (by first | (simp; done) | omega | (simp; omega)) _ | refine Below.alloc ?_ (by first | (simp; done) | omega | (simp; omega)) _)
    · first | (simp; done) | omega | (simp; omega)
  have hzw1 : w.heap.size + 3 < w1.heap.size := by have := hb.size; (try simp at this); omega
  have hyw1 : w.heap.size + 2 < w1.heap.size := by have := hb.size; (try simp at this); omega
  have hxw1 : w.heap.size + 1 < w1.heap.size := by have := hb.size; (try simp at this); omega
  have huw1 : w.heap.size < w1.heap.size := by have := hb.size; (try simp at this); omega
  clear hb
  go_wp2_with fail
  refine (U.out _).mono ?_
  rintro e w2 ⟨rfl, hb⟩
  have hsw2 := hb.size
  try simp at hsw2
  obtain ⟨hcw2, hfw2⟩ := bcell hb
  have HBw2 : Hid (Below w.heap.size w w2) := by
    apply Lib.hid
    refine Below.trans ?_ (hb.mono ?_)
    · repeat (first | exact Below.refl _ _ | exact HBw1.out | refine Below.setCell ?_ (by first | (simp; done) | omega | (simp; omega)) _ | refine Below.alloc ?_ (by first | (simp; done) | omega | (simp; omega)) _)
    · first | (simp; done) | omega | (simp; omega)
  have hzw2 : w.heap.size + 3 < w2.heap.size := by have := hb.size; (try simp at this); omega
  have hyw2 : w.heap.size + 2 < w2.heap.size := by have := hb.size; (try simp at this); omega
  have hxw2 : w.heap.size + 1 < w2.heap.size := by have := hb.size; (try simp at this); omega
  have huw2 : w.heap.size < w2.heap.size := by have := hb.size; (try simp at this); omega
  clear hb
  first | (have gsw2w1 : w1.heap.size < w2.heap.size := by omega) | skip
  go_wp2_with fail
  refine bodyPost_ret (v := .agg #[.int .i64 p, .int .i64 q, .int .i64 r]) (by first | (simp [results, Tryz.results143, go_sem]; done) | (simp [results, Tryz.results143, go_sem, *]; done)) rfl ⟨rfl, ?_⟩
  repeat (first | exact Below.refl _ _ | exact HBw2.out | refine Below.setCell ?_ (by first | (simp; done) | omega | (simp; omega)) _ | refine Below.alloc ?_ (by first | (simp; done) | omega | (simp; omega)) _ | refine bel_drew ?_)
/-- A vector, or the refusal of one that isn't valid. -/
def doneV (x y z : Int) : Value := if okV x y z = true then .tuple #[.agg #[.int .i64 x, .int .i64 y, .int .i64 z], .int .i64 0] else .tuple #[.agg #[.int .i64 0, .int .i64 0, .int .i64 0], .int .i64 6]
end Go.Proofs.YtjghopepgfgebaaGreatDoor
