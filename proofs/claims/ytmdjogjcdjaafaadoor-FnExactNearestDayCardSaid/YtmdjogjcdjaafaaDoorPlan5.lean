/-
  Where planets are, in package impl: the contracts of placeAt, PlaceInOrbit, wayAt.
-/
import Derived.Test.YtmdjogjcdjaafaaDoorPlan4
import Derived.Deep.RegionWith
namespace Go.Proofs.YtmdjogjcdjaafaaDoor
open Go.RowKit
set_option linter.unusedVariables false

/-- Two numbers that lie one behind the other and may be written. -/
structure C2 (w : World) (g : Nat) (a b : Int) : Prop where
  c0 : w.cell? ⟨g, 0, none⟩ = some (.int .i64 a)
  c1 : w.cell? ⟨g, 1, none⟩ = some (.int .i64 b)
  f0 : w.frozen? ⟨g, 0, none⟩ = false
  f1 : w.frozen? ⟨g, 1, none⟩ = false
theorem C2.inn {v : World} {g : Nat} {a b : Int} (h : C2 v g a b) : g < v.heap.size := World.block_lt_of_cell? v ⟨g, 0, none⟩ h.c0
theorem C2.go {w w' : World} {g : Nat} {a b : Int} (h : C2 w g a b) (hb : Below w.heap.size w w') : C2 w' g a b := by
  obtain ⟨k1, k2⟩ := bcell hb
  have hg := h.inn
  exact ⟨(k1 g 0 hg).trans h.c0, (k1 g 1 hg).trans h.c1, (k2 g 0 hg).trans h.f0, (k2 g 1 hg).trans h.f1⟩
theorem C2.new (w : World) (T : TypeId) (a b : Int) : C2 (w.alloc (.cells #[.int .i64 a, .int .i64 b] T)) w.heap.size a b := ⟨by simp, by simp, by simp, by simp⟩
theorem C2.alloc {w : World} {g : Nat} {a b : Int} (h : C2 w g a b) (o : Obj) : C2 (w.alloc o) g a b := h.go ((Below.refl _ _).alloc (Nat.le_refl _) o)
theorem C2.go1 {v x : World} {o : Obj} {g : Nat} {a b : Int} (h : C2 v g a b) (l : Below (v.alloc o).heap.size (v.alloc o) x) : C2 x g a b := (h.alloc o).go l
theorem C2.set0 {w : World} {g : Nat} {a b : Int} (h : C2 w g a b) (p : Int) : C2 (w.setCell ⟨g, 0, none⟩ (.int .i64 p)) g p b :=
  ⟨by rw [World.cell?_setCell_same (h := h.c0)], by rw [World.cell?_setCell_other (h := by simp)]; exact h.c1, by simp [h.f0], by simp [h.f1]⟩
theorem C2.set1 {w : World} {g : Nat} {a b : Int} (h : C2 w g a b) (p : Int) : C2 (w.setCell ⟨g, 1, none⟩ (.int .i64 p)) g a p :=
  ⟨by rw [World.cell?_setCell_other (h := by simp)]; exact h.c0, by rw [World.cell?_setCell_same (h := h.c1)], by simp [h.f0], by simp [h.f1]⟩
theorem C2.other {w : World} {g g' o : Nat} {v : Value} {a b : Int} (h : C2 w g a b) (hg : g' ≠ g) : C2 (w.setCell ⟨g', o, none⟩ v) g a b :=
  ⟨by rw [World.cell?_setCell_other (h := by simp [hg])]; exact h.c0, by rw [World.cell?_setCell_other (h := by simp [hg])]; exact h.c1, by simp [h.f0], by simp [h.f1]⟩
theorem undrewD1 {W u : World} {o : Obj} (h : Below (W.alloc o).drew.heap.size (W.alloc o).drew u) : Below W.heap.size W u := ((Below.refl _ W).alloc (Nat.le_refl _) o).trans ((undrewP h).mono (by simp))
theorem undrewD2 {W u : World} {o o' : Obj} (h : Below ((W.alloc o).alloc o').drew.heap.size ((W.alloc o).alloc o').drew u) : Below W.heap.size W u := (((Below.refl _ W).alloc (Nat.le_refl _) o).alloc (by simp) o').trans ((undrewP h).mono (by simp; omega))
theorem onw {W u v : World} (b : Below W.heap.size W u) (k : Below u.heap.size u v) : Below W.heap.size W v := b.trans (k.mono b.size)
theorem onw1 {W u v : World} {o : Obj} (b : Below W.heap.size W u) (k : Below (u.alloc o).heap.size (u.alloc o) v) : Below W.heap.size W v := (b.alloc b.size o).trans (k.mono (b.alloc b.size o).size)
theorem onw2 {W u v : World} {o o' : Obj} (b : Below W.heap.size W u) (k : Below ((u.alloc o).alloc o').heap.size ((u.alloc o).alloc o') v) : Below W.heap.size W v := by
  have h1 := b.alloc b.size o
  have h2 := h1.alloc h1.size o'
  exact h2.trans (k.mono h2.size)
theorem newB (v : World) (T T' : TypeId) (a b p q : Int) : C2 ((v.alloc (.cells #[.int .i64 a, .int .i64 b] T)).alloc (.cells #[.int .i64 p, .int .i64 q] T')) (v.heap.size + 1) p q := by
  simpa using C2.new (v.alloc (.cells #[.int .i64 a, .int .i64 b] T)) T' p q
theorem Z2.d1 {v x : World} {T : TypeId} (l : Below (v.alloc (.cells #[.int .i64 0, .int .i64 0] T)).drew.heap.size (v.alloc (.cells #[.int .i64 0, .int .i64 0] T)).drew x) : C2 x v.heap.size 0 0 := (C2.new v T 0 0).go (undrewP l)
theorem Z2.d2 {v x : World} {T T' : TypeId} (l : Below ((v.alloc (.cells #[.int .i64 0, .int .i64 0] T)).alloc (.cells #[.int .i64 0, .int .i64 0] T')).drew.heap.size ((v.alloc (.cells #[.int .i64 0, .int .i64 0] T)).alloc (.cells #[.int .i64 0, .int .i64 0] T')).drew x) : C2 x v.heap.size 0 0 ∧ C2 x (v.heap.size + 1) 0 0 :=
  ⟨((C2.new v T 0 0).alloc _).go (undrewP l), (newB v T T' 0 0 0 0).go (undrewP l)⟩
theorem Z2.l1 {v x : World} {T : TypeId} (l : Below (v.alloc (.cells #[.int .i64 0, .int .i64 0] T)).heap.size (v.alloc (.cells #[.int .i64 0, .int .i64 0] T)) x) : C2 x v.heap.size 0 0 := (C2.new v T 0 0).go l
theorem Z2.l2 {v x : World} {T T' : TypeId} (l : Below ((v.alloc (.cells #[.int .i64 0, .int .i64 0] T)).alloc (.cells #[.int .i64 0, .int .i64 0] T')).heap.size ((v.alloc (.cells #[.int .i64 0, .int .i64 0] T)).alloc (.cells #[.int .i64 0, .int .i64 0] T')) x) : C2 x v.heap.size 0 0 ∧ C2 x (v.heap.size + 1) 0 0 :=
  ⟨((C2.new v T 0 0).alloc _).go l, (newB v T T' 0 0 0 0).go l⟩
theorem storedQ {w W : World} {g b0 o0 : Nat} {u v v0 : Value} (h : W.cell? ⟨b0, o0, none⟩ = some v0 ∧ Below w.heap.size w W) (g0 : g ≠ b0) (hg : w.heap.size ≤ g) :
    ((W.setCell ⟨g, 0, none⟩ u).setCell ⟨g, 1, none⟩ v).cell? ⟨b0, o0, none⟩ = some v0 ∧ Below w.heap.size w ((W.setCell ⟨g, 0, none⟩ u).setCell ⟨g, 1, none⟩ v) := by
  refine ⟨?_, (h.2.setCell hg _).setCell hg _⟩
  rw [World.cell?_setCell_other (h := by simp [g0]), World.cell?_setCell_other (h := by simp [g0])]
  exact h.1

set_option maxHeartbeats 4000000 in
theorem placeAt_any (s : ByteArray) (a b c d m : Int) (h : planetB s a b c = true) (k : okM d m = true) (w : World) (hs : SinesOK w) :
    Calls Tryd.prog 32 #[.agg #[.string s, .int .i64 a, .int .i64 b, .int .i64 c], .agg #[.int .i64 d, .int .i64 m]] w fun e w' => e = .returned (.agg #[.int .i64 (plX a b c d m), .int .i64 (plY a b c d m)]) ∧ Below w.heap.size w w' := by
  unfold plX plY
  obtain ⟨⟨a0, a1⟩, ⟨b0, b1⟩, c0, c1⟩ := planet_bd s a b c h
  obtain ⟨⟨d0, d1⟩, m0, m1⟩ := okM_bd d m k
  obtain ⟨o0, o1⟩ := orb_bd a c d m
  have A := Lib.hid (fun (w : World) => angleAt_any s a b c d m a0 a1 c0 c1 d0 d1 m0 m1 w)
  have C := Lib.hid (fun w hs => implCosine_any (orbI a c d m) (by omega) (by omega) w hs)
  have S := Lib.hid (fun w hs => implSine_any (orbI a c d m) (by omega) (by omega) w hs)
  have E := Lib.hid hs
  have q1 := cosI_bd (orbI a c d m)
  have q2 := sinI_bd (orbI a c d m)
  clear h k hs o0 o1 d0 d1 m0 m1 a0 a1 c0 c1
  generalize orbI a c d m = o at *
  generalize cosI o = u at *
  generalize sinI o = v at *
  have p1 := pr_bd b u 50000 1000000 (by omega) b1 q1.1 q1.2
  have p2 := pr_bd b v 50000 1000000 (by omega) b1 q2.1 q2.2
  have D1 := Lib.hid (fun w => nearest_any (b * u) 1000 w (by omega) (by omega) (by omega) (by omega))
  have D2 := Lib.hid (fun w => nearest_any (b * v) 1000 w (by omega) (by omega) (by omega) (by omega))
  have e1 : IntKind.i64.wrap (b * u) = b * u := IntWalk.i64_in _ (by omega)
  have e2 : IntKind.i64.wrap (b * v) = b * v := IntWalk.i64_in _ (by omega)
  clear p1 p2 q1 q2 b0 b1
  generalize nearQ (b * u) 1000 = X at *
  generalize nearQ (b * v) 1000 = Y at *
  obtain ⟨W0, hW0⟩ : ∃ W0, W0 = ((w.alloc (.cells #[.string s, .int .i64 a, .int .i64 b, .int .i64 c] 29)).alloc (.cells #[.int .i64 d, .int .i64 m] 31)).alloc (.cells #[.int .i64 0, .int .i64 0] 46) := ⟨_, rfl⟩
  have HB0 : Hid (Below w.heap.size w W0) := Lib.hid (by rw [hW0]; exact (((Below.refl _ _).alloc (Nat.le_refl _) _).alloc (by first | (simp; done) | (simp; omega)) _).alloc (by first | (simp; done) | (simp; omega)) _)
  have P0 : Hid (Pl W0 w.heap.size s a b c) := Lib.hid (by rw [hW0]; exact ((Pl.new _ _ _ _ _ _).alloc _).alloc _)
  have R0 : Hid (C2 W0 (w.heap.size + 1 + 1) 0 0) := Lib.hid (by rw [hW0]; simpa using C2.new ((w.alloc (.cells #[.string s, .int .i64 a, .int .i64 b, .int .i64 c] 29)).alloc (.cells #[.int .i64 d, .int .i64 m] 31)) 46 0 0)
  have HW := Lib.hid hW0
  clear hW0
  go_enter Tryd.func32, Tryd.ntmps32
  go_wp2_with fail
  rw [← HW.out]
  clear HW
  refine (A.out _).mono ?_
  rintro e w1 ⟨rfl, hb⟩
  have HB1 := Lib.hid (HB0.out.trans (hb.mono HB0.out.size))
  have R1 := Lib.hid (R0.out.go hb)
  have E1 := Lib.hid (E.out.below HB1.out)
  have K1 : Hid (w1.cell? ⟨w.heap.size, 2, none⟩ = some (.int .i64 b) ∧ Below w.heap.size w w1) := Lib.hid ⟨(P0.out.below hb).c2, HB1.out⟩
  clear hb P0 R0
  obtain ⟨k0, k1⟩ := K1.out
  go_wp2_with fail
  go_region_held3 (fun w' => w'.cell? ⟨w.heap.size, 2, none⟩ = some (.int .i64 b) ∧ Below w.heap.size w w') (first | (exact keepQ K1.out (bel_drew (Below.refl _ _))) | (exact keepQ K1.out y4) | (exact keepQ K1.out y3) | (exact keepQ K1.out y2) | (exact keepQ K1.out y1) | (exact storedQ (keepQ K1.out y4) (by omega) (by omega)) | go_keep) ((first
    | (go_at_call 48; (with_reducible refine (C.out _ (SinesOK.below E1.out (bel_drew (Below.refl _ _)))).mono ?_); rintro e x1 ⟨rfl, hx1⟩; have y1 := undrewP hx1)
    | (go_at_call 66; (with_reducible refine (S.out _ (SinesOK.below E1.out y2)).mono ?_); rintro e x3 ⟨rfl, hx3⟩; have y3 := y2.trans (hx3.mono y2.size))
    | (go_at_call 65; (first
        | ((with_reducible refine (D1.out _).mono ?_); rintro e x2 ⟨rfl, hx2⟩; have y2 := y1.trans (hx2.mono y1.size))
        | ((with_reducible refine (D2.out _).mono ?_); rintro e x4 ⟨rfl, hx4⟩; have y4 := y3.trans (hx4.mono y3.size); have rr := R1.out.go y4; obtain ⟨q0, q1, q2, q3⟩ := rr)))))
  rename_i held
  have HB := Lib.hid held.2
  clear held k0 k1
  go_wp2_with fail
  refine bodyPost_ret (v := .agg #[.int .i64 X, .int .i64 Y]) (by first | (simp [results, Tryd.results32, go_sem]; done) | (simp [results, Tryd.results32, go_sem, *]; done)) rfl ⟨rfl, ?_⟩
  repeat (first | exact Below.refl _ _ | exact HB.out | refine Below.setCell ?_ (by first | (simp; done) | omega | (simp; omega)) _ | refine Below.alloc ?_ (by first | (simp; done) | omega | (simp; omega)) _ | refine bel_drew ?_)

set_option maxHeartbeats 2000000 in
theorem implPlaceInOrbit_any (s : ByteArray) (a b c d m : Int) (hmax : s.size ≤ maxLen) (w : World) (hs : SinesOK w) :
    Calls Tryd.prog 14 #[.agg #[.string s, .int .i64 a, .int .i64 b, .int .i64 c], .agg #[.int .i64 d, .int .i64 m]] w fun e w' => e = .returned (pioV s a b c d m) ∧ Below w.heap.size w w' := by
  unfold pioV
  have I := Lib.hid (fun w => validPlanet_any s a b c hmax w)
  have J := Lib.hid (fun w => valid_any d m w)
  have E := Lib.hid hs
  clear hs hmax
  cases hp : planetB s a b c with
  | false =>
    rw [if_neg (by simp)]
    rw [hp] at I
    clear hp
    go_enter Tryd.func14, Tryd.ntmps14
    go_wp2_with fail
    refine (I.out _).mono ?_
    rintro e w1 ⟨rfl, hb⟩
    have hsw1 := hb.size
    try simp at hsw1
    obtain ⟨hcw1, hfw1⟩ := bcell hb
    have HBw1 : Hid (Below w.heap.size w w1) := by
      apply Lib.hid
      refine Below.trans ?_ (hb.mono ?_)
      · repeat (first | exact Below.refl _ _ | refine Below.setCell ?_ (by first | (simp; done) | omega | (simp; omega)) _ | refine Below.alloc ?_ (by first | (simp; done) | omega | (simp; omega)) _)
      · first | (simp; done) | omega | (simp; omega)
    have hzw1 : w.heap.size + 1 < w1.heap.size := by have := hb.size; (try simp at this); omega
    have hyw1 : w.heap.size < w1.heap.size := by have := hb.size; (try simp at this); omega
    clear hb
    go_wp2_with fail
    refine bodyPost_ret (v := .tuple #[.int .i64 0, .int .i64 0, .int .i64 1]) (by first | (simp [results, Tryd.results14, go_sem]; done) | (simp [results, Tryd.results14, go_sem, *]; done)) rfl ⟨rfl, ?_⟩
    repeat (first | exact Below.refl _ _ | exact HBw1.out | refine Below.setCell ?_ (by first | (simp; done) | omega | (simp; omega)) _ | refine Below.alloc ?_ (by first | (simp; done) | omega | (simp; omega)) _ | refine bel_drew ?_)
  | true =>
    rw [hp] at I
    cases hm : okM d m with
    | false =>
      rw [if_neg (by simp)]
      rw [hm] at J
      clear hp hm
      go_enter Tryd.func14, Tryd.ntmps14
      go_wp2_with fail
      refine (I.out _).mono ?_
      rintro e w1 ⟨rfl, hb⟩
      have hsw1 := hb.size
      try simp at hsw1
      obtain ⟨hcw1, hfw1⟩ := bcell hb
      have HBw1 : Hid (Below w.heap.size w w1) := by
        apply Lib.hid
        refine Below.trans ?_ (hb.mono ?_)
        · repeat (first | exact Below.refl _ _ | refine Below.setCell ?_ (by first | (simp; done) | omega | (simp; omega)) _ | refine Below.alloc ?_ (by first | (simp; done) | omega | (simp; omega)) _)
        · first | (simp; done) | omega | (simp; omega)
      have hzw1 : w.heap.size + 1 < w1.heap.size := by have := hb.size; (try simp at this); omega
      have hyw1 : w.heap.size < w1.heap.size := by have := hb.size; (try simp at this); omega
      clear hb
      go_wp2_with fail
      refine (J.out _).mono ?_
      rintro e w2 ⟨rfl, hb⟩
      have hsw2 := hb.size
      try simp at hsw2
      obtain ⟨hcw2, hfw2⟩ := bcell hb
      have HBw2 : Hid (Below w.heap.size w w2) := by
        apply Lib.hid
        refine Below.trans ?_ (hb.mono ?_)
        · repeat (first | exact Below.refl _ _ | exact HBw1.out | refine Below.setCell ?_ (by first | (simp; done) | omega | (simp; omega)) _ | refine Below.alloc ?_ (by first | (simp; done) | omega | (simp; omega)) _)
        · first | (simp; done) | omega | (simp; omega)
      have hzw2 : w.heap.size + 1 < w2.heap.size := by have := hb.size; (try simp at this); omega
      have hyw2 : w.heap.size < w2.heap.size := by have := hb.size; (try simp at this); omega
      clear hb
      first | (have gsw2w1 : w1.heap.size < w2.heap.size := by omega) | skip
      go_wp2_with fail
      refine bodyPost_ret (v := .tuple #[.int .i64 0, .int .i64 0, .int .i64 1]) (by first | (simp [results, Tryd.results14, go_sem]; done) | (simp [results, Tryd.results14, go_sem, *]; done)) rfl ⟨rfl, ?_⟩
      repeat (first | exact Below.refl _ _ | exact HBw2.out | refine Below.setCell ?_ (by first | (simp; done) | omega | (simp; omega)) _ | refine Below.alloc ?_ (by first | (simp; done) | omega | (simp; omega)) _ | refine bel_drew ?_)
    | true =>
      rw [if_pos ⟨rfl, rfl⟩]
      rw [hm] at J
      have G := Lib.hid (fun w hs => placeAt_any s a b c d m hp hm w hs)
      clear hp hm
      generalize plX a b c d m = X at *
      generalize plY a b c d m = Y at *
      go_enter Tryd.func14, Tryd.ntmps14
      go_wp2_with fail
      refine (I.out _).mono ?_
      rintro e w1 ⟨rfl, hb⟩
      have hsw1 := hb.size
      try simp at hsw1
      obtain ⟨hcw1, hfw1⟩ := bcell hb
      have HBw1 : Hid (Below w.heap.size w w1) := by
        apply Lib.hid
        refine Below.trans ?_ (hb.mono ?_)
        · repeat (first | exact Below.refl _ _ | refine Below.setCell ?_ (by first | (simp; done) | omega | (simp; omega)) _ | refine Below.alloc ?_ (by first | (simp; done) | omega | (simp; omega)) _)
        · first | (simp; done) | omega | (simp; omega)
      have hzw1 : w.heap.size + 1 < w1.heap.size := by have := hb.size; (try simp at this); omega
      have hyw1 : w.heap.size < w1.heap.size := by have := hb.size; (try simp at this); omega
      clear hb
      go_wp2_with fail
      refine (J.out _).mono ?_
      rintro e w2 ⟨rfl, hb⟩
      have hsw2 := hb.size
      try simp at hsw2
      obtain ⟨hcw2, hfw2⟩ := bcell hb
      have HBw2 : Hid (Below w.heap.size w w2) := by
        apply Lib.hid
        refine Below.trans ?_ (hb.mono ?_)
        · repeat (first | exact Below.refl _ _ | exact HBw1.out | refine Below.setCell ?_ (by first | (simp; done) | omega | (simp; omega)) _ | refine Below.alloc ?_ (by first | (simp; done) | omega | (simp; omega)) _)
        · first | (simp; done) | omega | (simp; omega)
      have hzw2 : w.heap.size + 1 < w2.heap.size := by have := hb.size; (try simp at this); omega
      have hyw2 : w.heap.size < w2.heap.size := by have := hb.size; (try simp at this); omega
      clear hb
      first | (have gsw2w1 : w1.heap.size < w2.heap.size := by omega) | skip
      go_wp2_with fail
      refine (G.out _ (E.out.below (by repeat (first | exact Below.refl _ _ | exact HBw2.out | refine Below.setCell ?_ (by first | (simp; done) | omega | (simp; omega)) _ | refine Below.alloc ?_ (by first | (simp; done) | omega | (simp; omega)) _ | refine bel_drew ?_)))).mono ?_
      rintro e w3 ⟨rfl, hb⟩
      have hsw3 := hb.size
      try simp at hsw3
      obtain ⟨hcw3, hfw3⟩ := bcell hb
      have HBw3 : Hid (Below w.heap.size w w3) := by
        apply Lib.hid
        refine Below.trans ?_ (hb.mono ?_)
        · repeat (first | exact Below.refl _ _ | exact HBw2.out | refine Below.setCell ?_ (by first | (simp; done) | omega | (simp; omega)) _ | refine Below.alloc ?_ (by first | (simp; done) | omega | (simp; omega)) _)
        · first | (simp; done) | omega | (simp; omega)
      have hzw3 : w.heap.size + 1 < w3.heap.size := by have := hb.size; (try simp at this); omega
      have hyw3 : w.heap.size < w3.heap.size := by have := hb.size; (try simp at this); omega
      clear hb
      first | (have gsw3w1 : w1.heap.size < w3.heap.size := by omega) | skip
      first | (have gsw3w2 : w2.heap.size < w3.heap.size := by omega) | skip
      go_wp2_with fail
      go_quiet (fail)
      go_wp2_with fail
      refine bodyPost_ret (v := .tuple #[.int .i64 X, .int .i64 Y, .int .i64 0]) (by first | (simp [results, Tryd.results14, go_sem]; done) | (simp [results, Tryd.results14, go_sem, *]; done)) rfl ⟨rfl, ?_⟩
      repeat (first | exact Below.refl _ _ | exact HBw3.out | refine Below.setCell ?_ (by first | (simp; done) | omega | (simp; omega)) _ | refine Below.alloc ?_ (by first | (simp; done) | omega | (simp; omega)) _ | refine bel_drew ?_)
      exact bel_drewN (HBw3.out.alloc HBw3.out.size _) _

/-- A view in a block of its own. -/
structure Vw (W : World) (g : Nat) (s : ByteArray) (a b c : Int) (t : ByteArray) (x y z : Int) : Prop where
  c0 : W.cell? ⟨g, 0, none⟩ = some (.string s)
  c1 : W.cell? ⟨g, 1, none⟩ = some (.int .i64 a)
  c2 : W.cell? ⟨g, 2, none⟩ = some (.int .i64 b)
  c3 : W.cell? ⟨g, 3, none⟩ = some (.int .i64 c)
  c4 : W.cell? ⟨g, 4, none⟩ = some (.string t)
  c5 : W.cell? ⟨g, 5, none⟩ = some (.int .i64 x)
  c6 : W.cell? ⟨g, 6, none⟩ = some (.int .i64 y)
  c7 : W.cell? ⟨g, 7, none⟩ = some (.int .i64 z)
theorem Vw.below {W W' : World} {g : Nat} {s : ByteArray} {a b c : Int} {t : ByteArray} {x y z : Int} (h : Vw W g s a b c t x y z) (hb : Below W.heap.size W W') : Vw W' g s a b c t x y z := by
  obtain ⟨k, _⟩ := bcell hb
  have l := World.block_lt_of_cell? W ⟨g, 0, none⟩ h.c0
  exact ⟨(k _ _ l).trans h.c0, (k _ _ l).trans h.c1, (k _ _ l).trans h.c2, (k _ _ l).trans h.c3, (k _ _ l).trans h.c4, (k _ _ l).trans h.c5, (k _ _ l).trans h.c6, (k _ _ l).trans h.c7⟩
theorem Vw.other {W : World} {g g' o : Nat} {v : Value} {s : ByteArray} {a b c : Int} {t : ByteArray} {x y z : Int} (h : Vw W g s a b c t x y z) (hg : g' ≠ g) : Vw (W.setCell ⟨g', o, none⟩ v) g s a b c t x y z :=
  ⟨by rw [World.cell?_setCell_other (h := by simp [hg])]; exact h.c0, by rw [World.cell?_setCell_other (h := by simp [hg])]; exact h.c1, by rw [World.cell?_setCell_other (h := by simp [hg])]; exact h.c2, by rw [World.cell?_setCell_other (h := by simp [hg])]; exact h.c3, by rw [World.cell?_setCell_other (h := by simp [hg])]; exact h.c4, by rw [World.cell?_setCell_other (h := by simp [hg])]; exact h.c5, by rw [World.cell?_setCell_other (h := by simp [hg])]; exact h.c6, by rw [World.cell?_setCell_other (h := by simp [hg])]; exact h.c7⟩
theorem Mo.other {W : World} {g g' o : Nat} {v : Value} {d m : Int} (h : Mo W g d m) (hg : g' ≠ g) : Mo (W.setCell ⟨g', o, none⟩ v) g d m :=
  ⟨by rw [World.cell?_setCell_other (h := by simp [hg])]; exact h.c0, by rw [World.cell?_setCell_other (h := by simp [hg])]; exact h.c1⟩
/-- What stays: the view, the moment, the result's cells. -/
def SW (w : World) (s : ByteArray) (a b c : Int) (t : ByteArray) (x y z d m : Int) (W : World) : Prop := Vw W w.heap.size s a b c t x y z ∧ Mo W (w.heap.size + 1) d m ∧ C2 W (w.heap.size + 1 + 1) 0 0 ∧ Below w.heap.size w W
section
variable {w W W' u : World} {s : ByteArray} {a b c : Int} {t : ByteArray} {x y z d m : Int}
theorem SW.on (k : SW w s a b c t x y z d m W) (hb : Below W.heap.size W W') : SW w s a b c t x y z d m W' :=
  ⟨k.1.below hb, k.2.1.below hb, k.2.2.1.go hb, k.2.2.2.trans (hb.mono k.2.2.2.size)⟩
theorem SW.set {g : Nat} (k : SW w s a b c t x y z d m W) (hg : w.heap.size + 1 + 1 < g) (o : Nat) (v : Value) : SW w s a b c t x y z d m (W.setCell ⟨g, o, none⟩ v) :=
  ⟨k.1.other (by omega), k.2.1.other (by omega), k.2.2.1.other (by omega), k.2.2.2.setCell (by simp; omega) _⟩
theorem SW.al (k : SW w s a b c t x y z d m W) (o : Obj) : SW w s a b c t x y z d m (W.alloc o) := k.on ((Below.refl _ _).alloc (Nat.le_refl _) o)
theorem SW.lt (k : SW w s a b c t x y z d m W) : w.heap.size + 1 + 1 < W.heap.size := k.2.2.1.inn
theorem SW.flat (k : SW w s a b c t x y z d m W) : W.cell? ⟨w.heap.size, 0, none⟩ = some (.string s) ∧ W.cell? ⟨w.heap.size, 1, none⟩ = some (.int .i64 a) ∧ W.cell? ⟨w.heap.size, 2, none⟩ = some (.int .i64 b) ∧ W.cell? ⟨w.heap.size, 3, none⟩ = some (.int .i64 c) ∧ W.cell? ⟨w.heap.size, 4, none⟩ = some (.string t) ∧ W.cell? ⟨w.heap.size, 5, none⟩ = some (.int .i64 x) ∧ W.cell? ⟨w.heap.size, 6, none⟩ = some (.int .i64 y) ∧ W.cell? ⟨w.heap.size, 7, none⟩ = some (.int .i64 z) ∧ W.cell? ⟨w.heap.size + 1, 0, none⟩ = some (.int .i64 d) ∧ W.cell? ⟨w.heap.size + 1, 1, none⟩ = some (.int .i64 m) ∧ Below w.heap.size w W :=
  ⟨k.1.c0, k.1.c1, k.1.c2, k.1.c3, k.1.c4, k.1.c5, k.1.c6, k.1.c7, k.2.1.c0, k.2.1.c1, k.2.2.2⟩
/-- The two places that the region makes: (X, Y) in block e, (U, V) in block f. -/
def RelW (w : World) (s : ByteArray) (a b c : Int) (t : ByteArray) (x y z d m : Int) (U V X Y : Int) (e f : Nat) (W : World) : Prop := e ≠ f ∧ Hid (C2 W e U V) ∧ Hid (C2 W f X Y) ∧ Hid (SW w s a b c t x y z d m W) ∧ w.heap.size + 1 + 1 < e ∧ w.heap.size + 1 + 1 < f
theorem W1 {U V X Y : Int} {T T' : TypeId} (k : SW w s a b c t x y z d m u) :
    RelW w s a b c t x y z d m U V X Y u.heap.size (u.heap.size + 1) ((u.alloc (.cells #[.int .i64 U, .int .i64 V] T)).alloc (.cells #[.int .i64 X, .int .i64 Y] T')) := by
  have h := k.lt
  exact ⟨by omega, Lib.hid ((C2.new u T U V).alloc _), Lib.hid (newB u T T' U V X Y), Lib.hid ((k.al _).al _), h, by omega⟩
theorem W1' {U V X Y : Int} {T T' : TypeId} (k : SW w s a b c t x y z d m u) :
    RelW w s a b c t x y z d m U V X Y (u.heap.size + 1) u.heap.size ((u.alloc (.cells #[.int .i64 X, .int .i64 Y] T)).alloc (.cells #[.int .i64 U, .int .i64 V] T')) := by
  have h := k.lt
  exact ⟨by omega, Lib.hid (newB u T T' X Y U V), Lib.hid ((C2.new u T X Y).alloc _), Lib.hid ((k.al _).al _), by omega, h⟩
theorem set2 {u : World} {g : Nat} {p q : Int} (h : C2 u g p q) (a b : Int) : C2 ((u.setCell ⟨g, 0, none⟩ (.int .i64 a)).setCell ⟨g, 1, none⟩ (.int .i64 b)) g a b := (h.set0 a).set1 b
theorem off2 {u : World} {g e : Nat} {a b : Int} (h : C2 u e a b) (ne : g ≠ e) (p q : Value) : C2 ((u.setCell ⟨g, 0, none⟩ p).setCell ⟨g, 1, none⟩ q) e a b := (h.other ne).other ne
theorem size2 (u : World) (g : Nat) (p q : Value) : ((u.setCell ⟨g, 0, none⟩ p).setCell ⟨g, 1, none⟩ q).heap.size = u.heap.size := by simp
theorem W2 {U V X Y : Int} {g : Nat} {T : TypeId} (k : SW w s a b c t x y z d m u) (h : C2 u g 0 0) (hg : w.heap.size + 1 + 1 < g) :
    RelW w s a b c t x y z d m U V X Y g u.heap.size (((u.setCell ⟨g, 0, none⟩ (.int .i64 U)).setCell ⟨g, 1, none⟩ (.int .i64 V)).alloc (.cells #[.int .i64 X, .int .i64 Y] T)) := by
  have hi := h.inn
  have hk := k.lt
  refine ⟨by omega, Lib.hid ((set2 h U V).alloc _), Lib.hid ?_, Lib.hid (((k.set hg _ _).set hg _ _).al _), hg, hk⟩
  have := C2.new ((u.setCell ⟨g, 0, none⟩ (.int .i64 U)).setCell ⟨g, 1, none⟩ (.int .i64 V)) T X Y
  rw [size2] at this
  exact this
theorem W2' {U V X Y : Int} {g : Nat} {T : TypeId} (k : SW w s a b c t x y z d m u) (h : C2 u g 0 0) (hg : w.heap.size + 1 + 1 < g) :
    RelW w s a b c t x y z d m U V X Y u.heap.size g (((u.setCell ⟨g, 0, none⟩ (.int .i64 X)).setCell ⟨g, 1, none⟩ (.int .i64 Y)).alloc (.cells #[.int .i64 U, .int .i64 V] T)) := by
  have hi := h.inn
  have hk := k.lt
  refine ⟨by omega, Lib.hid ?_, Lib.hid ((set2 h X Y).alloc _), Lib.hid (((k.set hg _ _).set hg _ _).al _), hk, hg⟩
  have := C2.new ((u.setCell ⟨g, 0, none⟩ (.int .i64 X)).setCell ⟨g, 1, none⟩ (.int .i64 Y)) T U V
  rw [size2] at this
  exact this
theorem W3 {U V X Y : Int} {g e : Nat} (k : SW w s a b c t x y z d m u) (h : C2 u g 0 0) (h' : C2 u e 0 0) (ne : g ≠ e) (hg : w.heap.size + 1 + 1 < g) (he : w.heap.size + 1 + 1 < e) :
    RelW w s a b c t x y z d m U V X Y g e ((((u.setCell ⟨g, 0, none⟩ (.int .i64 U)).setCell ⟨g, 1, none⟩ (.int .i64 V)).setCell ⟨e, 0, none⟩ (.int .i64 X)).setCell ⟨e, 1, none⟩ (.int .i64 Y)) :=
  ⟨ne, Lib.hid (off2 (set2 h U V) (Ne.symm ne) _ _), Lib.hid (set2 (off2 h' ne _ _) X Y), Lib.hid ((((k.set hg _ _).set hg _ _).set he _ _).set he _ _), hg, he⟩
end
end Go.Proofs.YtmdjogjcdjaafaaDoor
