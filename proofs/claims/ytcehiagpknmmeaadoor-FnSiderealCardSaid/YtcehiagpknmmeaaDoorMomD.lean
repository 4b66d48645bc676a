/-
  A drawn moment (package spec: l03Draw, R8Moment): it is valid.
-/
import Derived.Test.YtcehiagpknmmeaaDoorSrcG
import Derived.Test.YtcehiagpknmmeaaDoorMomA
namespace Go.Proofs.YtcehiagpknmmeaaDoor
open Go.RowKit
set_option linter.unusedVariables false

structure Two (w : World) (b : Nat) (x y : Int) : Prop where
  lt : b < w.heap.size
  c0 : w.cell? ⟨b, 0, none⟩ = some (.int .i64 x)
  c1 : w.cell? ⟨b, 1, none⟩ = some (.int .i64 y)
  f0 : w.frozen? ⟨b, 0, none⟩ = false
  f1 : w.frozen? ⟨b, 1, none⟩ = false
theorem Two.new (w : World) (x y : Int) (t : TypeId) : Two (w.alloc (.cells #[.int .i64 x, .int .i64 y] t)) w.heap.size x y := by
  refine ⟨by simp, ?_, ?_, ?_, ?_⟩
  · rw [World.cell?_alloc_at _ _ _ _ rfl]; rfl
  · rw [World.cell?_alloc_at _ _ _ _ rfl]; rfl
  · rw [World.frozen?_alloc_at _ _ _ _ rfl]
  · rw [World.frozen?_alloc_at _ _ _ _ rfl]
theorem Two.gb {w w' : World} {b g : Nat} {x y : Int} (h : Two w b x y) (hg : w.grownBy w' (some g)) (hne : b ≠ g) : Two w' b x y := by
  obtain ⟨hc, hf⟩ := gq_cell hg h.lt hne
  exact ⟨by have := hg.size; have := h.lt; omega, (hc 0).trans h.c0, (hc 1).trans h.c1, (hf 0).trans h.f0, (hf 1).trans h.f1⟩
theorem Two.keep {w w' : World} {b : Nat} {x y : Int} (h : Two w b x y) (hb : Below w.heap.size w w') : Two w' b x y := by
  have hl := h.lt
  have hs := hb.size
  exact ⟨by omega, (hb.cell (p := ⟨b, 0, none⟩) hl).trans h.c0, (hb.cell (p := ⟨b, 1, none⟩) hl).trans h.c1, (hb.frozen (p := ⟨b, 0, none⟩) hl).trans h.f0, (hb.frozen (p := ⟨b, 1, none⟩) hl).trans h.f1⟩
theorem Two.other {w : World} {b : Nat} {x y : Int} (h : Two w b x y) (c j : Nat) (v : Value) (hne : b ≠ c) : Two (w.setCell ⟨c, j, none⟩ v) b x y :=
  h.gb (gq_set w c j v) hne
theorem Two.set1 {w : World} {b : Nat} {x y : Int} (h : Two w b x y) (z : Int) : Two (w.setCell ⟨b, 1, none⟩ (.int .i64 z)) b x z := by
  refine ⟨by rw [World.size_setCell]; exact h.lt, ?_, World.cell?_setCell_same _ _ _ h.c1, by rw [World.frozen?_setCell]; exact h.f0, by rw [World.frozen?_setCell]; exact h.f1⟩
  rw [World.cell?_setCell_other _ _ _ _ (by simp)]; exact h.c0
theorem Two.set0 {w : World} {b : Nat} {x y : Int} (h : Two w b x y) (z : Int) : Two (w.setCell ⟨b, 0, none⟩ (.int .i64 z)) b z y := by
  refine ⟨by rw [World.size_setCell]; exact h.lt, World.cell?_setCell_same _ _ _ h.c0, ?_, by rw [World.frozen?_setCell]; exact h.f0, by rw [World.frozen?_setCell]; exact h.f1⟩
  rw [World.cell?_setCell_other _ _ _ _ (by simp)]; exact h.c1
theorem okM_of {d m : Int} (h0 : 0 ≤ d) (h1 : d ≤ 99999) (h2 : 0 ≤ m) (h3 : m ≤ 86399999) : okM d m = true := by
  unfold okM
  rw [(inR_1 0 99999 d).2 ⟨h0, h1⟩, (inR_1 0 86399999 m).2 ⟨h2, h3⟩]
  rfl

set_option maxRecDepth 100000 in
set_option maxHeartbeats 4000000 in
theorem draw3_any {W w : World} {g n cap k : Nat} {a : Option Addr} {zs : List Int} (hin : BytesIn W (.slice a n cap) zs) (hn : zs.length ≤ 1048576) (h : SrcAt W w g a n cap k) (hk : k ≤ 50) :
    Calls Tryd.prog 14 #[.pointer (some ⟨g, 0, none⟩)] w fun e w' => ∃ d m : Int, e = .returned (.agg #[.int .i64 d, .int .i64 m]) ∧ okM d m = true ∧ Below W.heap.size W w' := by
  have IN := Lib.hid hin
  have hWs := h.bel.size
  have hgW := h.old
  have hgl := h.lt
  have H := Lib.hid h
  clear hin h
  go_enter Tryd.func14, Tryd.ntmps14
  go_wp2_with fail
  have hb0 : Below w.heap.size w (w.alloc (Obj.cells #[.int .i64 0, .int .i64 0] 25)) := (Below.refl _ _).alloc (Nat.le_refl _) _
  have TR0 := Lib.hid (Two.new w 0 0 25)
  have HA := Lib.hid (H.out.keep hb0)
  have hRg : w.heap.size ≠ g := by omega
  obtain ⟨R, hR⟩ : ∃ R, R = w.heap.size := ⟨_, rfl⟩
  rw [← hR] at TR0 hRg ⊢
  have hRW : W.heap.size ≤ R := by omega
  clear hb0 hR H hgl hWs
  generalize w.alloc (Obj.cells #[.int .i64 0, .int .i64 0] 25) = wa at *
  refine (pick_any 12000 (by omega) (by omega) IN.out hn HA.out (by omega)).mono ?_
  rintro e w1 ⟨r1, rfl, a0, a1, h1, g1⟩
  have TR1 := Lib.hid (TR0.out.gb g1 hRg)
  have H1 := Lib.hid h1
  clear h1 g1 HA TR0
  go_wp2_with fail
  have hb1 : Below w1.heap.size w1 (w1.alloc (Obj.cells #[.int .i64 r1, .int .i64 0] 25)) := (Below.refl _ _).alloc (Nat.le_refl _) _
  have TM1 := Lib.hid (Two.new w1 r1 0 25)
  have H1' := Lib.hid (H1.out.keep hb1)
  have TR1' := Lib.hid (TR1.out.keep hb1)
  have hMg : w1.heap.size ≠ g := by have := H1.out.lt; omega
  have hMR : w1.heap.size ≠ R := by have := TR1.out.lt; omega
  obtain ⟨M, hM⟩ : ∃ M, M = w1.heap.size := ⟨_, rfl⟩
  have hMW : W.heap.size ≤ M := by have := H1.out.bel.size; omega
  rw [← hM] at TM1 hMg hMR ⊢
  clear hb1 hM H1 TR1
  generalize w1.alloc (Obj.cells #[.int .i64 r1, .int .i64 0] 25) = wb at *
  refine (pick_any 43200 (by omega) (by omega) IN.out hn H1'.out (by omega)).mono ?_
  rintro e w2 ⟨r2, rfl, b0, b1, h2, g2⟩
  have TR2 := Lib.hid (TR1'.out.gb g2 hRg)
  have TM2 := Lib.hid (TM1.out.gb g2 hMg)
  have H2 := Lib.hid h2
  clear h2 g2 H1' TR1' TM1
  go_wp2_with fail
  refine (pick_any 40000000 (by omega) (by omega) IN.out hn H2.out (by omega)).mono ?_
  rintro e w3 ⟨r3, rfl, c0, c1, h3, g3⟩
  have TR3 := Lib.hid (TR2.out.gb g3 hRg)
  have TM3 := Lib.hid (TM2.out.gb g3 hMg)
  have H3 := Lib.hid h3
  have q0 := TM3.out.c0
  have q1 := TM3.out.c1
  have e0 := TM3.out.f0
  have e1 := TM3.out.f1
  clear h3 g3 H2 TR2 TM2
  go_wp2_with fail
  have TM4 := Lib.hid (TM3.out.set1 (1000 * r2 + r3))
  have TR4 := Lib.hid (TR3.out.other M 1 (.int .i64 (1000 * r2 + r3)) (fun e => hMR e.symm))
  have H4 := Lib.hid (H3.out.other M 1 (.int .i64 (1000 * r2 + r3)) (fun e => hMg e.symm) hMW)
  have m0 : 0 ≤ 1000 * r2 + r3 := by omega
  have m1 : 1000 * r2 + r3 ≤ 86399999 := by omega
  clear q0 q1 e0 e1 TM3 TR3 H3
  generalize w3.setCell ⟨M, 1, none⟩ (.int .i64 (1000 * r2 + r3)) = wc at *
  generalize 1000 * r2 + r3 = mm at *
  refine (one_any 8 (by omega) (by omega) IN.out hn H4.out (by omega)).mono ?_
  rintro e w4 ⟨yes, rfl, h4, g4⟩
  have TR5 := Lib.hid (TR4.out.gb g4 hRg)
  have TM5 := Lib.hid (TM4.out.gb g4 hMg)
  have H5 := Lib.hid h4
  have p0 := TR5.out.c0
  have p1 := TR5.out.c1
  have f0 := TR5.out.f0
  have f1 := TR5.out.f1
  have hRM : R ≠ M := fun e => hMR e.symm
  clear h4 g4 H4 TR4 TM4
  cases yes with
  | false =>
    have q0 := TM5.out.c0
    have q1 := TM5.out.c1
    have T9 := Lib.hid ((TR5.out.set0 r1).set1 mm)
    go_wp2_with fail
    have z0 := T9.out.c0
    have z1 := T9.out.c1
    refine bodyPost_ret (v := .agg #[.int .i64 r1, .int .i64 mm]) (by simp [results, Tryd.results14, go_sem, z0, z1]) rfl ?_
    exact ⟨_, _, rfl, okM_of (by omega) (by omega) m0 m1, (H5.out.bel.setCell hRW _).setCell hRW _⟩
  | true =>
    clear p0 p1 f0 f1
    go_wp2_with fail
    have hb4 : Below w4.heap.size w4 (w4.alloc (Obj.cells #[.int .i64 0, .int .i64 59, .int .i64 60, .int .i64 99999] 2)) := (Below.refl _ _).alloc (Nat.le_refl _) _
    have HX : Hid (∀ j, (hj : j < [(0 : Int), 59, 60, 99999].length) → (w4.alloc (Obj.cells #[.int .i64 0, .int .i64 59, .int .i64 60, .int .i64 99999] 2)).cell? ⟨w4.heap.size, j, none⟩ = some (.int .i64 [(0 : Int), 59, 60, 99999][j])) := Lib.hid (by
      intro j hj
      rw [World.cell?_alloc_at _ _ _ _ rfl]
      match j, hj with
      | 0, _ => rfl
      | 1, _ => rfl
      | 2, _ => rfl
      | 3, _ => rfl)
    have hL : w4.heap.size < (w4.alloc (Obj.cells #[.int .i64 0, .int .i64 59, .int .i64 60, .int .i64 99999] 2)).heap.size := by simp
    have hLg : w4.heap.size ≠ g := by have := H5.out.lt; omega
    have TR6 := Lib.hid (TR5.out.keep hb4)
    have TM6 := Lib.hid (TM5.out.keep hb4)
    have H6 := Lib.hid (H5.out.keep hb4)
    clear hb4 TR5 TM5 H5
    generalize w4.alloc (Obj.cells #[.int .i64 0, .int .i64 59, .int .i64 60, .int .i64 99999] 2) = wd at *
    refine (among_any [(0 : Int), 59, 60, 99999] (by simp) (by simp) IN.out hn H6.out (by omega) hLg hL HX.out).mono ?_
    rintro e w5 ⟨r5, rfl, hm5, h5, g5⟩
    have d0 : 0 ≤ r5 ∧ r5 ≤ 99999 := by
      simp only [List.mem_cons, List.not_mem_nil, or_false] at hm5
      omega
    have TR7 := Lib.hid (TR6.out.gb g5 hRg)
    have TM7 := Lib.hid (TM6.out.gb g5 hMg)
    have H7 := Lib.hid h5
    have TM8 := Lib.hid (TM7.out.set0 r5)
    have TR8 := Lib.hid (TR7.out.other M 0 (.int .i64 r5) hRM)
    have T9 := Lib.hid ((TR8.out.set0 r5).set1 mm)
    have q0 := TM7.out.c0
    have q1 := TM7.out.c1
    have e0 := TM7.out.f0
    have e1 := TM7.out.f1
    have p0 := TR7.out.c0
    have p1 := TR7.out.c1
    have f0 := TR7.out.f0
    have f1 := TR7.out.f1
    clear hm5 h5 g5 TR6 TM6 H6 HX TM7 TR7
    go_wp2_with fail
    have z0 := T9.out.c0
    have z1 := T9.out.c1
    refine bodyPost_ret (v := .agg #[.int .i64 r5, .int .i64 mm]) (by simp [results, Tryd.results14, go_sem, z0, z1]) rfl ?_
    exact ⟨_, _, rfl, okM_of d0.1 d0.2 m0 m1, ((H7.out.bel.setCell hMW _).setCell hRW _).setCell hRW _⟩

set_option maxRecDepth 100000 in
set_option maxHeartbeats 4000000 in
theorem r8Moment_any {w : World} {v : Value} {zs : List Int} (hin : BytesIn w v zs) (hn : zs.length ≤ 1048576) :
    Calls Tryd.prog 5 #[v] w fun e w' => ∃ d m : Int, e = .returned (.agg #[.int .i64 d, .int .i64 m]) ∧ okM d m = true ∧ Below w.heap.size w w' := by
  obtain ⟨a, cap, rfl⟩ := hin.len
  have IN := Lib.hid hin
  clear hin
  go_enter Tryd.func5, Tryd.ntmps5
  go_wp2_with fail
  have hb0 : Below w.heap.size w (w.alloc (Obj.cells #[.int .i64 0, .int .i64 0] 25)) := (Below.refl _ _).alloc (Nat.le_refl _) _
  have TR0 := Lib.hid (Two.new w 0 0 25)
  have IN1 := Lib.hid (IN.out.below hb0)
  have HB0 := Lib.hid hb0
  clear hb0 IN
  generalize w.alloc (Obj.cells #[.int .i64 0, .int .i64 0] 25) = wa at *
  refine (from_any a zs.length cap wa).mono ?_
  rintro e w1 ⟨rfl, h1⟩
  have H1 := Lib.hid h1
  clear h1
  go_wp2_with fail
  refine (draw3_any IN1.out hn H1.out (by omega)).mono ?_
  rintro e w2 ⟨d, m, rfl, hok, hb2⟩
  have TR2 := Lib.hid (TR0.out.keep hb2)
  have HB2 := Lib.hid (HB0.out.trans (hb2.mono HB0.out.size))
  have T9 := Lib.hid ((TR2.out.set0 d).set1 m)
  have p0 := TR2.out.c0
  have p1 := TR2.out.c1
  have f0 := TR2.out.f0
  have f1 := TR2.out.f1
  have HOK := Lib.hid hok
  clear hb2 TR0 H1 IN1 hok
  go_wp2_with fail
  have z0 := T9.out.c0
  have z1 := T9.out.c1
  refine bodyPost_ret (v := .agg #[.int .i64 d, .int .i64 m]) (by simp [results, Tryd.results5, go_sem, z0, z1]) rfl ?_
  exact ⟨_, _, rfl, HOK.out, (HB2.out.setCell (Nat.le_refl _) _).setCell (Nat.le_refl _) _⟩
end Go.Proofs.YtcehiagpknmmeaaDoor
