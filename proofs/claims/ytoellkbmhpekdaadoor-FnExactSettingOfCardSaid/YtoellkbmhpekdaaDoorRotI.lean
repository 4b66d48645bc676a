/-
  Turns around an axis: the contract of RotateAround (package impl).
-/
import Derived.Test.YtoellkbmhpekdaaDoorRot
import Derived.Test.YtoellkbmhpekdaaDoorTurnB
import Derived.Test.YtoellkbmhpekdaaDoorAxis
import Derived.Test.YtoellkbmhpekdaaDoorSRot
import Derived.Test.YtoellkbmhpekdaaDoorVecR
import Derived.Shelf.Abstract
namespace Go.Proofs.YtoellkbmhpekdaaDoor
open Go.RowKit
set_option linter.unusedVariables false

theorem keepR3 {w W W' : World} {g r : Nat} {x y z : Int} (k : C3 W g x y z ∧ C3 W r 0 0 0 ∧ Below w.heap.size w W) (hb : Below W.heap.size W W') : C3 W' g x y z ∧ C3 W' r 0 0 0 ∧ Below w.heap.size w W' :=
  ⟨k.1.stays hb (World.block_lt_of_cell? W ⟨g, 0, none⟩ k.1.c0), k.2.1.stays hb (World.block_lt_of_cell? W ⟨r, 0, none⟩ k.2.1.c0), k.2.2.trans (hb.mono k.2.2.size)⟩
theorem flatR3 {w W : World} {g r : Nat} {x y z : Int} (k : C3 W g x y z ∧ C3 W r 0 0 0 ∧ Below w.heap.size w W) : W.cell? ⟨g, 0, none⟩ = some (.int .i64 x) ∧ W.cell? ⟨g, 1, none⟩ = some (.int .i64 y) ∧ W.cell? ⟨g, 2, none⟩ = some (.int .i64 z) ∧ Below w.heap.size w W := ⟨k.1.c0, k.1.c1, k.1.c2, k.2.2⟩
theorem flatR3s {w W : World} {x y z : Int} {u v s : Value} (k : C3 W w.heap.size x y z ∧ C3 W (w.heap.size + 1) 0 0 0 ∧ Below w.heap.size w W) :
    (((W.setCell ⟨w.heap.size + 1, 0, none⟩ u).setCell ⟨w.heap.size + 1, 1, none⟩ v).setCell ⟨w.heap.size + 1, 2, none⟩ s).cell? ⟨w.heap.size, 0, none⟩ = some (.int .i64 x) ∧ (((W.setCell ⟨w.heap.size + 1, 0, none⟩ u).setCell ⟨w.heap.size + 1, 1, none⟩ v).setCell ⟨w.heap.size + 1, 2, none⟩ s).cell? ⟨w.heap.size, 1, none⟩ = some (.int .i64 y) ∧ (((W.setCell ⟨w.heap.size + 1, 0, none⟩ u).setCell ⟨w.heap.size + 1, 1, none⟩ v).setCell ⟨w.heap.size + 1, 2, none⟩ s).cell? ⟨w.heap.size, 2, none⟩ = some (.int .i64 z) ∧
    Below w.heap.size w (((W.setCell ⟨w.heap.size + 1, 0, none⟩ u).setCell ⟨w.heap.size + 1, 1, none⟩ v).setCell ⟨w.heap.size + 1, 2, none⟩ s) := by
  have A := ((k.1.other (g' := w.heap.size + 1) (o := 0) (v := u) (by omega)).other (g' := w.heap.size + 1) (o := 1) (v := v) (by omega)).other (g' := w.heap.size + 1) (o := 2) (v := s) (by omega)
  exact ⟨A.c0, A.c1, A.c2, ((k.2.2.setCell (by simp) _).setCell (by simp) _).setCell (by simp) _⟩

set_option maxHeartbeats 4000000 in
/-- RotateAround where the map has a function for the axis. -/
theorem implRot_at (x y z ax a p q t : Int) (f : Nat) (eg : ∀ args w, (callFunc f args).run Tryd.prog w = .ok (.enter f args) w) (a0 : -9223372036854775808 ≤ a) (a1 : a ≤ 9223372036854775807) (ho : okV x y z = true)
    (hlk : ∀ (W : World) (g : Nat), W.heap[g]? = some (.map (ents 3) 3) → (Instr.lookup 112 (.map (some g)) (.int .i64 ax) true).run Tryd.prog W = .ok (.tuple #[.func (.func f) #[] #[], .bool true]) W)
    (hf : ∀ W, Calls Tryd.prog f #[.agg #[.int .i64 x, .int .i64 y, .int .i64 z], .agg #[.int .i64 (sinI a), .int .i64 (cosI a)]] W fun e w' => e = .returned (.agg #[.int .i64 p, .int .i64 q, .int .i64 t]) ∧ Below W.heap.size W w') (w : World) (hs : SinesOK w) :
    Calls Tryd.prog 72 #[.agg #[.int .i64 x, .int .i64 y, .int .i64 z], .int .i64 ax, .int .i64 a] w fun e w' => e = .returned (doneV p q t) ∧ Below w.heap.size w w' := by
  have I := Lib.hid (fun w => validV_any x y z w)
  rw [ho] at I
  have E := Lib.hid hs
  have TB := Lib.hid (fun w hs => turnBy_any a ⟨a0, a1⟩ w hs)
  have HF := Lib.hid hf
  have HL := Lib.hid hlk
  have V := Lib.hid (fun w => validResult_any p q t w)
  have AT := Lib.hid (fun w => axisTurns_any w)
  obtain ⟨n0, n1, n2, nd, hd⟩ := doneV_form p q t
  rw [hd] at V ⊢
  clear hd ho hs hf hlk
  generalize sinI a = s at *
  generalize cosI a = c at *
  obtain ⟨W0, hW0⟩ : ∃ W0, W0 = (w.alloc (.cells #[.int .i64 x, .int .i64 y, .int .i64 z] 26)).alloc (.cells #[.int .i64 0, .int .i64 0, .int .i64 0] 26) := ⟨_, rfl⟩
  have K0 : Hid (C3 W0 w.heap.size x y z ∧ C3 W0 (w.heap.size + 1) 0 0 0 ∧ Below w.heap.size w W0) := Lib.hid (by
    refine ⟨?_, ?_, ?_⟩
    · rw [hW0]; exact (C3.new _ _ _ _ _).alloc (by simp) _
    · rw [hW0]; simpa using C3.new (w.alloc (.cells #[.int .i64 x, .int .i64 y, .int .i64 z] 26)) 26 0 0 0
    · rw [hW0]; exact ((Below.refl _ _).alloc (Nat.le_refl _) _).alloc (by simp) _)
  have HW := Lib.hid hW0
  clear hW0
  obtain ⟨k0, k1, k2, _⟩ := flatR3 K0.out
  go_enter Tryd.func72, Tryd.ntmps72
  go_wp2_with fail
  rw [← HW.out]
  clear HW
  refine (I.out _).mono ?_
  rintro e w1 ⟨rfl, hb⟩
  have K1 := Lib.hid (keepR3 K0.out hb)
  clear hb K0 k0 k1 k2
  go_wp2_with fail
  refine (AT.out _).mono ?_
  rintro e w2 ⟨rfl, rfl⟩
  have lk := HL.out (w1.alloc (.map (ents 3) 3)) w1.heap.size (by show (w1.heap.push _)[w1.heap.size]? = _; simp)
  have K2 := Lib.hid (keepR3 K1.out ((Below.refl _ w1).alloc (Nat.le_refl _) (.map (ents 3) 3)))
  clear K1 HL
  generalize w1.alloc (.map (ents 3) 3) = W2 at *
  go_wp2_with fail
  clear lk
  obtain ⟨k0, k1, k2, k3⟩ := flatR3 K2.out
  have ED := Lib.hid (SinesOK.below E.out (bel_drew k3))
  clear k3
  go_region_held3 (fun w' => w'.cell? ⟨w.heap.size, 0, none⟩ = some (.int .i64 x) ∧ w'.cell? ⟨w.heap.size, 1, none⟩ = some (.int .i64 y) ∧ w'.cell? ⟨w.heap.size, 2, none⟩ = some (.int .i64 z) ∧ Below w.heap.size w w') (first | (exact flatR3 (keepR3 K2.out (bel_drew (Below.refl _ _)))) | (exact flatR3 (keepR3 K2.out y4)) | (exact flatR3 (keepR3 K2.out y3)) | (exact flatR3 (keepR3 K2.out y2)) | (exact flatR3s (keepR3 K2.out y4)) | go_keep) ((first
    | (go_at_call 103; refine (TB.out _ ED.out).mono ?_; rintro e x2 ⟨rfl, hx2⟩; have y2 := undrewV hx2)
    | (go_at_call 102; refine (V.out _).mono ?_; rintro e x4 ⟨rfl, hx4⟩; have y4 := y3.trans (hx4.mono y3.size); have rr := (keepR3 K2.out y4).2.1; obtain ⟨r0, r1, r2, r3, r4, r5⟩ := rr)
    | (go_at_fn f; refine (HF.out _).mono ?_; rintro e x3 ⟨rfl, hx3⟩; have y3 := y2.trans (hx3.mono y2.size))))
  rename_i held
  have HB := Lib.hid held.2.2.2
  clear held
  go_wp2_with fail
  refine bodyPost_ret (v := .tuple #[.agg #[.int .i64 n0, .int .i64 n1, .int .i64 n2], .int .i64 nd]) (by first | (simp [results, Tryd.results72, go_sem]; done) | (simp [results, Tryd.results72, go_sem, *]; done)) rfl ⟨rfl, ?_⟩
  repeat (first | exact Below.refl _ _ | exact HB.out | refine Below.setCell ?_ (by first | (simp; done) | omega | (simp; omega)) _ | refine Below.alloc ?_ (by first | (simp; done) | omega | (simp; omega)) _ | refine bel_drew ?_)

set_option maxHeartbeats 2000000 in
theorem implRot_any (x y z ax a : Int) (a0 : -9223372036854775808 ≤ a) (a1 : a ≤ 9223372036854775807) (w : World) (hs : SinesOK w) :
    Calls Tryd.prog 72 #[.agg #[.int .i64 x, .int .i64 y, .int .i64 z], .int .i64 ax, .int .i64 a] w fun e w' => e = .returned (rotV x y z ax a) ∧ Below w.heap.size w w' := by
  unfold rotV
  cases ho : okV x y z with
  | false =>
    rw [if_neg (by simp)]
    have I := Lib.hid (fun w => validV_any x y z w)
    rw [ho] at I
    clear ho hs
    go_enter Tryd.func72, Tryd.ntmps72
    go_wp2_with fail
    refine (I.out _).mono ?_
    rintro e w1 ⟨rfl, hb⟩
    have hsw1 := hb.size
    try simp at hsw1
    obtain ⟨hcw1, hfw1⟩ := bcell hb
    have HBw1 : Hid (Below w.heap.size w w1) := by
      apply Lib.hid
      refine Below.trans ?_ (hb.mono ?_)
      · repeat (first | exact Below.refl _ _ | refine Below.setCell ?_ (by first | (simp; done) | omega | (simp; omega)) _ | refine Below.alloc ?_ (by first | (simp; done) | omega | (simp; omega)) _)
      · first | (simp; done) | omega | (simp; omega)
    have hzw1 : w.heap.size + 1 < w1.heap.size := by have := hb.size; (try simp at this); omega
    have hyw1 : w.heap.size < w1.heap.size := by have := hb.size; (try simp at this); omega
    clear hb
    go_wp2_with fail
    refine bodyPost_ret (v := .tuple #[.agg #[.int .i64 0, .int .i64 0, .int .i64 0], .int .i64 1]) (by first | (simp [results, Tryd.results72, go_sem]; done) | (simp [results, Tryd.results72, go_sem, *]; done)) rfl ⟨rfl, ?_⟩
    repeat (first | exact Below.refl _ _ | exact HBw1.out | refine Below.setCell ?_ (by first | (simp; done) | omega | (simp; omega)) _ | refine Below.alloc ?_ (by first | (simp; done) | omega | (simp; omega)) _ | refine bel_drew ?_)
  | true =>
    rw [if_pos rfl]
    have hv := inV_ok _ _ _ ho
    have s01 := sinI_bd a
    have c01 := cosI_bd a
    by_cases h1 : ax = 1
    · subst h1
      rw [if_pos (by decide)]
      exact implRot_at x y z 1 a _ _ _ 134 (enters_of Tryd.func134 (by kernel_rfl) rfl) a0 a1 ho (fun W g hb => look_at W g hb 1 _ 0 find_1) (fun W => aroundX_any (sinI a) (cosI a) x y z s01 c01 hv W) w hs
    · by_cases h2 : ax = 2
      · subst h2
        rw [if_pos (by decide)]
        have e1 : roX 2 x y z (sinI a) (cosI a) = nearQ (z * sinI a + x * cosI a) 1000000 := by unfold roX; rw [if_neg (by decide), if_pos rfl, Int.add_comm]
        rw [e1]
        exact implRot_at x y z 2 a _ _ _ 135 (enters_of Tryd.func135 (by kernel_rfl) rfl) a0 a1 ho (fun W g hb => look_at W g hb 2 _ 1 find_2) (fun W => aroundY_any (sinI a) (cosI a) x y z s01 c01 hv W) w hs
      · by_cases h3 : ax = 3
        · subst h3
          rw [if_pos (by decide)]
          exact implRot_at x y z 3 a _ _ _ 136 (enters_of Tryd.func136 (by kernel_rfl) rfl) a0 a1 ho (fun W g hb => look_at W g hb 3 _ 2 find_3) (fun W => aroundZ_any (sinI a) (cosI a) x y z s01 c01 hv W) w hs
        · rw [if_neg (by rw [inR_1]; omega)]
          have I := Lib.hid (fun w => validV_any x y z w)
          rw [ho] at I
          have AT := Lib.hid (fun w => axisTurns_any w)
          have HL := Lib.hid (fun (W : World) (g : Nat) hb => look_none W g hb ax (find_none ax h1 h2 h3))
          clear ho hs hv s01 c01
          go_enter Tryd.func72, Tryd.ntmps72
          go_wp2_with fail
          refine (I.out _).mono ?_
          rintro e w1 ⟨rfl, hb⟩
          have A1 := ((C3.new w 26 x y z).alloc (by simp) (.cells #[.int .i64 0, .int .i64 0, .int .i64 0] 26)).stays hb (by simp; omega)
          have R1 := (by simpa using C3.new (w.alloc (.cells #[.int .i64 x, .int .i64 y, .int .i64 z] 26)) 26 0 0 0 : C3 _ (w.heap.size + 1) 0 0 0).stays hb (by simp)
          have HB1 : Below w.heap.size w w1 := Below.trans (by repeat (first | exact Below.refl _ _ | refine Below.alloc ?_ (by first | (simp; done) | omega | (simp; omega)) _)) (hb.mono (by simp; omega))
          have K1 := Lib.hid (show C3 w1 w.heap.size x y z ∧ C3 w1 (w.heap.size + 1) 0 0 0 ∧ Below w.heap.size w w1 from ⟨A1, R1, HB1⟩)
          clear hb A1 R1 HB1
          go_wp2_with fail
          refine (AT.out _).mono ?_
          rintro e w2 ⟨rfl, rfl⟩
          have lk := HL.out (w1.alloc (.map (ents 3) 3)) w1.heap.size (by show (w1.heap.push _)[w1.heap.size]? = _; simp)
          have K2 := Lib.hid (keepR3 K1.out ((Below.refl _ w1).alloc (Nat.le_refl _) (.map (ents 3) 3)))
          clear K1 HL
          generalize w1.alloc (.map (ents 3) 3) = W2 at *
          obtain ⟨r0, r1, r2, r3, r4, r5⟩ := K2.out.2.1
          have HB := Lib.hid K2.out.2.2
          go_wp2_with fail
          refine bodyPost_ret (v := .tuple #[.agg #[.int .i64 0, .int .i64 0, .int .i64 0], .int .i64 2]) (by first | (simp [results, Tryd.results72, go_sem]; done) | (simp [results, Tryd.results72, go_sem, *]; done)) rfl ⟨rfl, ?_⟩
          repeat (first | exact Below.refl _ _ | exact HB.out | refine Below.setCell ?_ (by first | (simp; done) | omega | (simp; omega)) _ | refine Below.alloc ?_ (by first | (simp; done) | omega | (simp; omega)) _ | refine bel_drew ?_)
end Go.Proofs.YtoellkbmhpekdaaDoor
