/-
  Directions between two vectors: the contract of BlendVectors (package impl).
-/
import Derived.Test.YtoellkbmhpekdaaSNorm7
import Derived.Deep.Cut
namespace Go.Proofs.Ytoellkbmhpekdaa
open Go.RowKit
set_option linter.unusedVariables false

set_option maxRecDepth 100000 in
set_option maxHeartbeats 400000 in
theorem lineAt2_any (x0 y0 x1 y1 x : Int) (w : World) (h1 : -4000000 ≤ x0) (h1' : x0 ≤ 4000000) (h2 : -4000000 ≤ y0) (h2' : y0 ≤ 4000000)
    (h3 : -4000000 ≤ x1) (h3' : x1 ≤ 4000000) (h4 : -4000000 ≤ y1) (h4' : y1 ≤ 4000000) :
    Calls Try.prog 48 #[.int .i64 x0, .int .i64 y0, .int .i64 x1, .int .i64 y1, .int .i64 x] w fun e w' => e = .returned (.int .i64 (lineI x0 y0 x1 y1 x)) ∧ Below w.heap.size w w' := by
  by_cases c1 : x ≤ x0
  · go_enter Try.func48, Try.ntmps48
    go_wp2_with fail
    go_ret
    exact ⟨ret_int (by unfold lineI; rw [if_pos (by omega)]), Below.refl _ _⟩
  · have c1' : decide (x ≤ x0) = false := by simpa using c1
    by_cases c2 : x1 ≤ x0
    · go_enter Try.func48, Try.ntmps48
      go_wp2_with fail
      go_ret
      exact ⟨ret_int (by unfold lineI; rw [if_pos (by omega)]), Below.refl _ _⟩
    · have c2' : decide (x1 ≤ x0) = false := by simpa using c2
      by_cases c3 : x1 ≤ x
      · go_enter Try.func48, Try.ntmps48
        go_wp2_with fail
        go_ret
        exact ⟨ret_int (by unfold lineI; rw [if_neg (by omega), if_pos (by omega)]), Below.refl _ _⟩
      · have c3' : decide (x1 ≤ x) = false := by simpa using c3
        obtain ⟨p1, p2⟩ := mul_bd (y1 - y0) (x - x0) 8000000 (by omega) (by omega) (by omega) (by omega)
        obtain ⟨q1, q2⟩ := nearQ_bd ((y1 - y0) * (x - x0)) (x1 - x0) (8000000 * 8000000) (by omega) (by omega) (by omega)
        have e : lineI x0 y0 x1 y1 x = y0 + nearQ ((y1 - y0) * (x - x0)) (x1 - x0) := by unfold lineI; rw [if_neg (by omega), if_neg (by omega)]
        rw [e]
        clear e
        go_enter Try.func48, Try.ntmps48
        go_wp2_with fail
        refine (nearest_any _ _ _ (by omega) (by omega) (by omega) (by omega)).mono ?_
        rintro e w' ⟨rfl, hg⟩
        go_wp2_with fail
        go_ret
        exact ⟨rfl, hg⟩


/-- What BlendVectors answers. -/
def blendV (x y z x' y' z' s : Int) : Value := if okV x y z = true then (if okV x' y' z' = true then (if inR 0 1000 [s] = true then normV (shr x x' s) (shr y y' s) (shr z z' s) else .tuple #[.agg #[.int .i64 0, .int .i64 0, .int .i64 0], .int .i64 2]) else .tuple #[.agg #[.int .i64 0, .int .i64 0, .int .i64 0], .int .i64 1]) else .tuple #[.agg #[.int .i64 0, .int .i64 0, .int .i64 0], .int .i64 1]
theorem blendV_form (x y z x' y' z' s : Int) : ∃ a b c d : Int, blendV x y z x' y' z' s = .tuple #[.agg #[.int .i64 a, .int .i64 b, .int .i64 c], .int .i64 d] := by
  unfold blendV
  split
  · split
    · split
      · exact normV_form _ _ _
      · exact ⟨_, _, _, _, rfl⟩
    · exact ⟨_, _, _, _, rfl⟩
  · exact ⟨_, _, _, _, rfl⟩
theorem shr_ok (x y z x' y' z' s : Int) (h : inV 2000000 x y z) (h' : inV 2000000 x' y' z') (s0 : 0 ≤ s) (s1 : s ≤ 1000) : okV (shr x x' s) (shr y y' s) (shr z z' s) = true := by
  obtain ⟨⟨a, b⟩, ⟨c, d⟩, e, f⟩ := h
  obtain ⟨⟨a', b'⟩, ⟨c', d'⟩, e', f'⟩ := h'
  have k1 := shr_bd x x' s _ a b a' b' s0 s1
  have k2 := shr_bd y y' s _ c d c' d' s0 s1
  have k3 := shr_bd z z' s _ e f e' f' s0 s1
  rw [okV_bd]
  omega

theorem undrewD1 {W u : World} {o : Obj} (h : Below (W.alloc o).drew.heap.size (W.alloc o).drew u) : Below W.heap.size W u := ((Below.refl _ W).alloc (Nat.le_refl _) o).trans ((undrewV h).mono (by simp))
theorem undrewD2 {W u : World} {o o' : Obj} (h : Below ((W.alloc o).alloc o').drew.heap.size ((W.alloc o).alloc o').drew u) : Below W.heap.size W u := (((Below.refl _ W).alloc (Nat.le_refl _) o).alloc (by simp) o').trans ((undrewV h).mono (by simp; omega))
theorem onw {W u v : World} (b : Below W.heap.size W u) (k : Below u.heap.size u v) : Below W.heap.size W v := b.trans (k.mono b.size)
theorem onw1 {W u v : World} {o : Obj} (b : Below W.heap.size W u) (k : Below (u.alloc o).heap.size (u.alloc o) v) : Below W.heap.size W v := (b.alloc b.size o).trans (k.mono (b.alloc b.size o).size)
theorem onw2 {W u v : World} {o o' : Obj} (b : Below W.heap.size W u) (k : Below ((u.alloc o).alloc o').heap.size ((u.alloc o).alloc o') v) : Below W.heap.size W v := by
  have h1 := b.alloc b.size o
  have h2 := h1.alloc h1.size o'
  exact h2.trans (k.mono h2.size)
theorem Z.d1 {v x : World} {T : TypeId} (l : Below (v.alloc (.cells #[.int .i64 0, .int .i64 0, .int .i64 0] T)).drew.heap.size (v.alloc (.cells #[.int .i64 0, .int .i64 0, .int .i64 0] T)).drew x) : C3 x v.heap.size 0 0 0 := (C3.new v T 0 0 0).stays (undrewV l) (by simp)
theorem Z.d2 {v x : World} {T T' : TypeId} (l : Below ((v.alloc (.cells #[.int .i64 0, .int .i64 0, .int .i64 0] T)).alloc (.cells #[.int .i64 0, .int .i64 0, .int .i64 0] T')).drew.heap.size ((v.alloc (.cells #[.int .i64 0, .int .i64 0, .int .i64 0] T)).alloc (.cells #[.int .i64 0, .int .i64 0, .int .i64 0] T')).drew x) : C3 x v.heap.size 0 0 0 ∧ C3 x (v.heap.size + 1) 0 0 0 :=
  ⟨((C3.new v T 0 0 0).alloc (by simp) _).stays (undrewV l) (by simp; omega), (by simpa using C3.new (v.alloc (.cells #[.int .i64 0, .int .i64 0, .int .i64 0] T)) T' 0 0 0 : C3 _ (v.heap.size + 1) 0 0 0).stays (undrewV l) (by simp)⟩
theorem Z.l1 {v x : World} {T : TypeId} (l : Below (v.alloc (.cells #[.int .i64 0, .int .i64 0, .int .i64 0] T)).heap.size (v.alloc (.cells #[.int .i64 0, .int .i64 0, .int .i64 0] T)) x) : C3 x v.heap.size 0 0 0 := (C3.new v T 0 0 0).stays l (by simp)
theorem Z.l2 {v x : World} {T T' : TypeId} (l : Below ((v.alloc (.cells #[.int .i64 0, .int .i64 0, .int .i64 0] T)).alloc (.cells #[.int .i64 0, .int .i64 0, .int .i64 0] T')).heap.size ((v.alloc (.cells #[.int .i64 0, .int .i64 0, .int .i64 0] T)).alloc (.cells #[.int .i64 0, .int .i64 0, .int .i64 0] T')) x) : C3 x v.heap.size 0 0 0 ∧ C3 x (v.heap.size + 1) 0 0 0 :=
  ⟨((C3.new v T 0 0 0).alloc (by simp) _).stays l (by simp; omega), (by simpa using C3.new (v.alloc (.cells #[.int .i64 0, .int .i64 0, .int .i64 0] T)) T' 0 0 0 : C3 _ (v.heap.size + 1) 0 0 0).stays l (by simp)⟩
theorem C3.inn {v : World} {g : Nat} {a b c : Int} (h : C3 v g a b c) : g < v.heap.size := World.block_lt_of_cell? v ⟨g, 0, none⟩ h.c0
theorem C3.go {v x : World} {g : Nat} {a b c : Int} (h : C3 v g a b c) (l : Below v.heap.size v x) : C3 x g a b c := h.stays l (World.block_lt_of_cell? v ⟨g, 0, none⟩ h.c0)
theorem C3.go1 {v x : World} {o : Obj} {g : Nat} {a b c : Int} (h : C3 v g a b c) (l : Below (v.alloc o).heap.size (v.alloc o) x) : C3 x g a b c := (h.alloc (World.block_lt_of_cell? v ⟨g, 0, none⟩ h.c0) o).go l

/-- What stays: the two vectors, and the result's cell. -/
def SB (w : World) (x y z x' y' z' : Int) (W : World) : Prop := C3 W w.heap.size x y z ∧ C3 W (w.heap.size + 1) x' y' z' ∧ C3 W (w.heap.size + 1 + 1) 0 0 0 ∧ Below w.heap.size w W
theorem SB.on {w W W' : World} {x y z x' y' z' : Int} (k : SB w x y z x' y' z' W) (hb : Below W.heap.size W W') : SB w x y z x' y' z' W' :=
  ⟨k.1.stays hb (World.block_lt_of_cell? W ⟨_, 0, none⟩ k.1.c0), k.2.1.stays hb (World.block_lt_of_cell? W ⟨_, 0, none⟩ k.2.1.c0), k.2.2.1.stays hb (World.block_lt_of_cell? W ⟨_, 0, none⟩ k.2.2.1.c0), k.2.2.2.trans (hb.mono k.2.2.2.size)⟩
theorem SB.flat {w W : World} {x y z x' y' z' : Int} (k : SB w x y z x' y' z' W) : W.cell? ⟨w.heap.size, 0, none⟩ = some (.int .i64 x) ∧ W.cell? ⟨w.heap.size, 1, none⟩ = some (.int .i64 y) ∧ W.cell? ⟨w.heap.size, 2, none⟩ = some (.int .i64 z) ∧ W.cell? ⟨w.heap.size + 1, 0, none⟩ = some (.int .i64 x') ∧ W.cell? ⟨w.heap.size + 1, 1, none⟩ = some (.int .i64 y') ∧ W.cell? ⟨w.heap.size + 1, 2, none⟩ = some (.int .i64 z') ∧ Below w.heap.size w W :=
  ⟨k.1.c0, k.1.c1, k.1.c2, k.2.1.c0, k.2.1.c1, k.2.1.c2, k.2.2.2⟩

/-- The two arrays that the region makes. -/
def Rel (w : World) (x y z x' y' z' : Int) (b e : Nat) (W : World) : Prop := b ≠ e ∧ Hid (C3 W b x y z) ∧ Hid (C3 W e x' y' z') ∧ Hid (SB w x y z x' y' z' W) ∧ w.heap.size + 1 + 1 < b ∧ w.heap.size + 1 + 1 < e
theorem SB.set {w W : World} {x y z x' y' z' : Int} {g : Nat} (k : SB w x y z x' y' z' W) (hg : w.heap.size + 1 + 1 < g) (o : Nat) (v : Value) : SB w x y z x' y' z' (W.setCell ⟨g, o, none⟩ v) :=
  ⟨k.1.other (by omega), k.2.1.other (by omega), k.2.2.1.other (by omega), k.2.2.2.setCell (by simp; omega) _⟩
theorem SB.al {w W : World} {x y z x' y' z' : Int} (k : SB w x y z x' y' z' W) (o : Obj) : SB w x y z x' y' z' (W.alloc o) := k.on ((Below.refl _ _).alloc (Nat.le_refl _) o)
theorem SB.lt {w W : World} {x y z x' y' z' : Int} (k : SB w x y z x' y' z' W) : w.heap.size + 1 + 1 < W.heap.size := k.2.2.1.inn
theorem R1 {w u : World} {x y z x' y' z' : Int} {T T' : TypeId} (k : SB w x y z x' y' z' u) :
    Rel w x y z x' y' z' u.heap.size (u.heap.size + 1) ((u.alloc (.cells #[.int .i64 x, .int .i64 y, .int .i64 z] T)).alloc (.cells #[.int .i64 x', .int .i64 y', .int .i64 z'] T')) := by
  have h := k.lt
  refine ⟨by omega, Lib.hid ((C3.new u T x y z).alloc (by simp) _), Lib.hid ?_, Lib.hid ((k.al _).al _), h, by omega⟩
  simpa using C3.new (u.alloc (.cells #[.int .i64 x, .int .i64 y, .int .i64 z] T)) T' x' y' z'
theorem R1' {w u : World} {x y z x' y' z' : Int} {T T' : TypeId} (k : SB w x y z x' y' z' u) :
    Rel w x y z x' y' z' (u.heap.size + 1) u.heap.size ((u.alloc (.cells #[.int .i64 x', .int .i64 y', .int .i64 z'] T)).alloc (.cells #[.int .i64 x, .int .i64 y, .int .i64 z] T')) := by
  have h := k.lt
  refine ⟨by omega, Lib.hid ?_, Lib.hid ((C3.new u T x' y' z').alloc (by simp) _), Lib.hid ((k.al _).al _), by omega, h⟩
  simpa using C3.new (u.alloc (.cells #[.int .i64 x', .int .i64 y', .int .i64 z'] T)) T' x y z
theorem set3 {u : World} {g : Nat} (h : C3 u g 0 0 0) (a b c : Int) : C3 (((u.setCell ⟨g, 0, none⟩ (.int .i64 a)).setCell ⟨g, 1, none⟩ (.int .i64 b)).setCell ⟨g, 2, none⟩ (.int .i64 c)) g a b c := ((h.set0 a).set1 b).set2 c
theorem off3 {u : World} {g e : Nat} {a b c : Int} (h : C3 u e a b c) (ne : g ≠ e) (p q r : Value) : C3 (((u.setCell ⟨g, 0, none⟩ p).setCell ⟨g, 1, none⟩ q).setCell ⟨g, 2, none⟩ r) e a b c := ((h.other ne).other ne).other ne
theorem size3 (u : World) (g : Nat) (p q r : Value) : (((u.setCell ⟨g, 0, none⟩ p).setCell ⟨g, 1, none⟩ q).setCell ⟨g, 2, none⟩ r).heap.size = u.heap.size := by simp
theorem R2 {w u : World} {x y z x' y' z' : Int} {g : Nat} {T : TypeId} (k : SB w x y z x' y' z' u) (h : C3 u g 0 0 0) (hg : w.heap.size + 1 + 1 < g) :
    Rel w x y z x' y' z' g u.heap.size ((((u.setCell ⟨g, 0, none⟩ (.int .i64 x)).setCell ⟨g, 1, none⟩ (.int .i64 y)).setCell ⟨g, 2, none⟩ (.int .i64 z)).alloc (.cells #[.int .i64 x', .int .i64 y', .int .i64 z'] T)) := by
  have hi := h.inn
  have hk := k.lt
  refine ⟨by omega, Lib.hid ((set3 h x y z).alloc (by rw [size3]; exact hi) _), Lib.hid ?_, Lib.hid ((((k.set hg _ _).set hg _ _).set hg _ _).al _), hg, hk⟩
  have := C3.new (((u.setCell ⟨g, 0, none⟩ (.int .i64 x)).setCell ⟨g, 1, none⟩ (.int .i64 y)).setCell ⟨g, 2, none⟩ (.int .i64 z)) T x' y' z'
  rw [size3] at this
  exact this
theorem R2' {w u : World} {x y z x' y' z' : Int} {g : Nat} {T : TypeId} (k : SB w x y z x' y' z' u) (h : C3 u g 0 0 0) (hg : w.heap.size + 1 + 1 < g) :
    Rel w x y z x' y' z' u.heap.size g ((((u.setCell ⟨g, 0, none⟩ (.int .i64 x')).setCell ⟨g, 1, none⟩ (.int .i64 y')).setCell ⟨g, 2, none⟩ (.int .i64 z')).alloc (.cells #[.int .i64 x, .int .i64 y, .int .i64 z] T)) := by
  have hi := h.inn
  have hk := k.lt
  refine ⟨by omega, Lib.hid ?_, Lib.hid ((set3 h x' y' z').alloc (by rw [size3]; exact hi) _), Lib.hid ((((k.set hg _ _).set hg _ _).set hg _ _).al _), hk, hg⟩
  have := C3.new (((u.setCell ⟨g, 0, none⟩ (.int .i64 x')).setCell ⟨g, 1, none⟩ (.int .i64 y')).setCell ⟨g, 2, none⟩ (.int .i64 z')) T x y z
  rw [size3] at this
  exact this
theorem R3 {w u : World} {x y z x' y' z' : Int} {g e : Nat} (k : SB w x y z x' y' z' u) (h : C3 u g 0 0 0) (h' : C3 u e 0 0 0) (ne : g ≠ e) (hg : w.heap.size + 1 + 1 < g) (he : w.heap.size + 1 + 1 < e) :
    Rel w x y z x' y' z' g e ((((((u.setCell ⟨g, 0, none⟩ (.int .i64 x)).setCell ⟨g, 1, none⟩ (.int .i64 y)).setCell ⟨g, 2, none⟩ (.int .i64 z)).setCell ⟨e, 0, none⟩ (.int .i64 x')).setCell ⟨e, 1, none⟩ (.int .i64 y')).setCell ⟨e, 2, none⟩ (.int .i64 z')) :=
  ⟨ne, Lib.hid (off3 (set3 h x y z) (Ne.symm ne) _ _ _), Lib.hid (set3 (off3 h' ne _ _ _) x' y' z'), Lib.hid ((((((k.set hg _ _).set hg _ _).set hg _ _).set he _ _).set he _ _).set he _ _), hg, he⟩

set_option maxRecDepth 100000 in
set_option maxHeartbeats 4000000 in
theorem implBlendV_in (x y z x' y' z' s : Int) (ho : okV x y z = true) (ho' : okV x' y' z' = true) (hin : inR 0 1000 [s] = true) (w : World) :
    Calls Try.prog 23 #[.agg #[.int .i64 x, .int .i64 y, .int .i64 z], .agg #[.int .i64 x', .int .i64 y', .int .i64 z'], .int .i64 s] w fun e w' => e = .returned (normV (shr x x' s) (shr y y' s) (shr z z' s)) ∧ Below w.heap.size w w' := by
  have I := Lib.hid (fun w => validV_any x y z w)
  have J := Lib.hid (fun w => validV_any x' y' z' w)
  rw [ho] at I
  rw [ho'] at J
  have HI := Lib.hid hin
  have hv := inV_ok _ _ _ ho
  have hv' := inV_ok _ _ _ ho'
  obtain ⟨s0, s1⟩ := (inR_1 _ _ _).1 hin
  obtain ⟨⟨a, b⟩, ⟨c, d⟩, e, f⟩ := hv
  obtain ⟨⟨a', b'⟩, ⟨c', d'⟩, e', f'⟩ := hv'
  have L0 := Lib.hid (fun w => lineAt2_any 0 x 1000 x' s w (by omega) (by omega) (by omega) (by omega) (by omega) (by omega) (by omega) (by omega))
  have L1 := Lib.hid (fun w => lineAt2_any 0 y 1000 y' s w (by omega) (by omega) (by omega) (by omega) (by omega) (by omega) (by omega) (by omega))
  have L2 := Lib.hid (fun w => lineAt2_any 0 z 1000 z' s w (by omega) (by omega) (by omega) (by omega) (by omega) (by omega) (by omega) (by omega))
  rw [shr_line _ _ _ s0 s1] at L0 L1 L2
  have CA := Lib.hid (fun w => comps_any x y z w)
  have CB := Lib.hid (fun w => comps_any x' y' z' w)
  have U := Lib.hid (fun w => vector_any (shr x x' s) (shr y y' s) (shr z z' s) w)
  have N := Lib.hid (fun w => implNorm_any (shr x x' s) (shr y y' s) (shr z z' s) w)
  obtain ⟨na, nb, nc, nd, hn⟩ := normV_form (shr x x' s) (shr y y' s) (shr z z' s)
  rw [hn] at N ⊢
  clear hn ho ho' hin a b c d e f a' b' c' d' e' f' s0 s1
  generalize shr x x' s = p at *
  generalize shr y y' s = q at *
  generalize shr z z' s = t at *
  obtain ⟨W0, hW0⟩ : ∃ W0, W0 = ((w.alloc (.cells #[.int .i64 x, .int .i64 y, .int .i64 z] 47)).alloc (.cells #[.int .i64 x', .int .i64 y', .int .i64 z'] 47)).alloc (.cells #[.int .i64 0, .int .i64 0, .int .i64 0] 47) := ⟨_, rfl⟩
  have S0 : Hid (SB w x y z x' y' z' W0) := Lib.hid (by
    refine ⟨?_, ?_, ?_, ?_⟩
    · rw [hW0]; exact ((C3.new _ _ _ _ _).alloc (by simp) _).alloc (by simp; omega) _
    · rw [hW0]; exact ((by simpa using C3.new (w.alloc (.cells #[.int .i64 x, .int .i64 y, .int .i64 z] 47)) 47 x' y' z')  : C3 _ (w.heap.size + 1) x' y' z').alloc (by simp) _
    · rw [hW0]; exact ((by simpa using C3.new ((w.alloc (.cells #[.int .i64 x, .int .i64 y, .int .i64 z] 47)).alloc (.cells #[.int .i64 x', .int .i64 y', .int .i64 z'] 47)) 47 0 0 0) : C3 _ (w.heap.size + 1 + 1) 0 0 0)
    · rw [hW0]; repeat (first | exact Below.refl _ _ | refine Below.alloc ?_ (by first | (simp; done) | omega | (simp; omega)) _))
  have HW := Lib.hid hW0
  clear hW0
  obtain ⟨k0, k1, k2, k3, k4, k5, k6⟩ := S0.out.flat
  clear k6
  go_enter Try.func23, Try.ntmps23
  go_wp2_with fail
  rw [← HW.out]
  clear HW
  refine (I.out _).mono ?_
  rintro e w1 ⟨rfl, hb⟩
  have S1 := Lib.hid (S0.out.on hb)
  clear hb S0 k0 k1 k2 k3 k4 k5
  obtain ⟨k0, k1, k2, k3, k4, k5, k6⟩ := S1.out.flat
  clear k6
  go_wp2_with fail
  refine (J.out _).mono ?_
  rintro e w2 ⟨rfl, hb⟩
  have S2 := Lib.hid (S1.out.on hb)
  clear hb S1 k0 k1 k2 k3 k4 k5
  go_wp2_with fail
  refine (within1 _ _ s _ _ _ (by simp)).mono ?_
  rintro e w' ⟨rfl, rfl⟩
  rw [HI.out]
  have S3 := Lib.hid (S2.out.on ((Below.refl _ w2).alloc (Nat.le_refl _) (.cells #[.int .i64 s] 2)))
  clear S2 HI I J
  generalize w2.alloc (.cells #[.int .i64 s] 2) = W3 at *
  obtain ⟨k0, k1, k2, k3, k4, k5, k6⟩ := S3.out.flat
  clear k6
  go_upto_region 5 with fail
  go_cut [8, 9] from 10 (fun s8 s9 wx => ∃ b e : Nat, s8 = .pointer (some ⟨b, 0, none⟩) ∧ s9 = .pointer (some ⟨e, 0, none⟩) ∧ Rel w x y z x' y' z' b e wx)
  case first =>
    have hW3 : w.heap.size + 1 + 1 < W3.heap.size := World.block_lt_of_cell? W3 ⟨_, 0, none⟩ S3.out.2.2.1.c0
    go_region_held3 (fun w' => w'.cell? ⟨w.heap.size, 0, none⟩ = some (.int .i64 x) ∧ w'.cell? ⟨w.heap.size, 1, none⟩ = some (.int .i64 y) ∧ w'.cell? ⟨w.heap.size, 2, none⟩ = some (.int .i64 z) ∧ w'.cell? ⟨w.heap.size + 1, 0, none⟩ = some (.int .i64 x') ∧ w'.cell? ⟨w.heap.size + 1, 1, none⟩ = some (.int .i64 y') ∧ w'.cell? ⟨w.heap.size + 1, 2, none⟩ = some (.int .i64 z') ∧ Below w.heap.size w w') (first | (refine (S3.out.on ?_).flat; repeat (first | with_reducible exact b2 | with_reducible exact b1 | with_reducible exact Below.refl _ _ | with_reducible refine Below.setCell ?_ (by first | (simp; done) | omega | (simp; omega)) _ | with_reducible refine Below.alloc ?_ (by first | (simp; done) | omega | (simp; omega)) _ | with_reducible refine bel_drew ?_)) | go_keep) ((first
      | (go_at_call 47; (first
        | ((with_reducible refine (CA.out _).mono ?_); rintro e u1 ⟨rfl, hu1⟩; (first | have b1 := undrewD2 hu1 | have b1 := undrewD1 hu1 | have b1 := undrewV hu1); have b1s := b1.size)
        | ((with_reducible refine (CB.out _).mono ?_); rintro e u2 ⟨rfl, hu2⟩; (first | have b2 := onw2 b1 hu2 | have b2 := onw1 b1 hu2 | have b2 := onw b1 hu2); have b2s := b2.size; have u12 := hu2.size; (first
          | (have r := Z.d2 hu1; have ra := r.1.go hu2; have rb := r.2.go hu2; have RA := Lib.hid ra; have la := ra.inn; have na := Nat.ne_of_lt la; have na' := Nat.ne_of_gt la; have RB := Lib.hid rb; have lb := rb.inn; have nb := Nat.ne_of_lt lb; have nb' := Nat.ne_of_gt lb; obtain ⟨qa0, qa1, qa2, qa3, qa4, qa5⟩ := ra; obtain ⟨qb0, qb1, qb2, qb3, qb4, qb5⟩ := rb)
          | (have r := Z.d1 hu1; have ra := r.go1 hu2; have rb := Z.l1 hu2; have lr := r.inn; have nr := Nat.ne_of_lt lr; have nr' := Nat.ne_of_gt lr; have RA := Lib.hid ra; have la := ra.inn; have na := Nat.ne_of_lt la; have na' := Nat.ne_of_gt la; have RB := Lib.hid rb; have lb := rb.inn; have nb := Nat.ne_of_lt lb; have nb' := Nat.ne_of_gt lb; obtain ⟨qa0, qa1, qa2, qa3, qa4, qa5⟩ := ra; obtain ⟨qb0, qb1, qb2, qb3, qb4, qb5⟩ := rb)
          | (have r := Z.d1 hu1; have ra := r.go hu2; have RA := Lib.hid ra; have la := ra.inn; have na := Nat.ne_of_lt la; have na' := Nat.ne_of_gt la; obtain ⟨qa0, qa1, qa2, qa3, qa4, qa5⟩ := ra)
          | (have r := Z.l2 hu2; have ra := r.1; have rb := r.2; have RA := Lib.hid ra; have la := ra.inn; have na := Nat.ne_of_lt la; have na' := Nat.ne_of_gt la; have RB := Lib.hid rb; have lb := rb.inn; have nb := Nat.ne_of_lt lb; have nb' := Nat.ne_of_gt lb; obtain ⟨qa0, qa1, qa2, qa3, qa4, qa5⟩ := ra; obtain ⟨qb0, qb1, qb2, qb3, qb4, qb5⟩ := rb)
          | (have ra := Z.l1 hu2; have RA := Lib.hid ra; have la := ra.inn; have na := Nat.ne_of_lt la; have na' := Nat.ne_of_gt la; obtain ⟨qa0, qa1, qa2, qa3, qa4, qa5⟩ := ra)
          | skip))))))
    all_goals
      rename_i held
      clear held k0 k1 k2 k3 k4 k5
      go_wp2_with fail
      go_meet
      case rel =>
        have hk := Lib.hid (S3.out.on b2)
        refine ⟨_, _, rfl, rfl, ?_⟩
        first
        | with_reducible exact R1 hk.out
        | with_reducible exact R1' hk.out
        | with_reducible exact R2 hk.out RA.out (by omega)
        | with_reducible exact R2' hk.out RA.out (by omega)
        | with_reducible exact R3 hk.out RA.out RB.out (by omega) (by omega) (by omega)
        | with_reducible exact R3 hk.out RB.out RA.out (by omega) (by omega) (by omega)
  case rest =>
    obtain ⟨b, e, rfl, rfl, hne, HB0, HE, HS, hb1, he1⟩ := hcut
    clear S3 k0 k1 k2 k3 k4 k5 CA CB
    obtain ⟨e0, e1, e2, _, _, _⟩ := HE.out
    have i0 := at0 x' y' z'
    have i1 := at1 x' y' z'
    have i2 := at2 x' y' z'
    go_wp2_with fail
    clear e0 e1 e2
    go_loopg [33] 3 (fun kx s33 wr => ∃ (k : Nat) (a c d : Int), k ≤ 3 ∧ kx = 3 - k ∧ s33 = .int .i64 k ∧ a = (if 0 < k then p else x) ∧ c = (if 1 < k then q else y) ∧ d = (if 2 < k then t else z) ∧ Hid (C3 wr b a c d) ∧ Hid (C3 wr (w.heap.size + 1 + 1) 0 0 0) ∧ Hid (Below w.heap.size w wr))
    case atStart => exact ⟨0, x, y, z, by omega, rfl, rfl, rfl, rfl, rfl, HB0, Lib.hid HS.out.2.2.1, Lib.hid HS.out.2.2.2⟩
    case round =>
      obtain ⟨k, a, c, d, hk, rfl, rfl, ha, hc, hd, A, Z, B⟩ := hrel
      rcases (by omega : k = 0 ∨ k = 1 ∨ k = 2 ∨ k = 3) with rfl | rfl | rfl | rfl
      · have ea : a = x := by simpa using ha
        have ec : c = y := by simpa using hc
        have ed : d = z := by simpa using hd
        rw [ea, ec, ed] at A
        clear ha hc hd ea ec ed
        obtain ⟨c0, c1, c2, f0, f1, f2⟩ := A.out
        go_wp2_with fail
        refine (L0.out _).mono ?_
        rintro e' v1 ⟨rfl, hb⟩
        have A1 := Lib.hid (A.out.go hb)
        have Z1 := Lib.hid (Z.out.go hb)
        have B1 := Lib.hid (B.out.trans (hb.mono B.out.size))
        clear hb c0 c1 c2 f0 f1 f2
        obtain ⟨c0, c1, c2, f0, f1, f2⟩ := A1.out
        go_wp2_with fail
        go_roundg (3 - 1)
        case measure => omega
        case rel => exact ⟨1, p, y, z, by omega, rfl, by go_num, rfl, rfl, rfl, Lib.hid (A1.out.set0 _), Lib.hid (Z1.out.other (by omega)), Lib.hid (B1.out.setCell (by simp; omega) _)⟩
      · have ea : a = p := by simpa using ha
        have ec : c = y := by simpa using hc
        have ed : d = z := by simpa using hd
        rw [ea, ec, ed] at A
        clear ha hc hd ea ec ed
        obtain ⟨c0, c1, c2, f0, f1, f2⟩ := A.out
        go_wp2_with fail
        refine (L1.out _).mono ?_
        rintro e' v1 ⟨rfl, hb⟩
        have A1 := Lib.hid (A.out.go hb)
        have Z1 := Lib.hid (Z.out.go hb)
        have B1 := Lib.hid (B.out.trans (hb.mono B.out.size))
        clear hb c0 c1 c2 f0 f1 f2
        obtain ⟨c0, c1, c2, f0, f1, f2⟩ := A1.out
        go_wp2_with fail
        go_roundg (3 - 2)
        case measure => omega
        case rel => exact ⟨2, p, q, z, by omega, rfl, by go_num, rfl, rfl, rfl, Lib.hid (A1.out.set1 _), Lib.hid (Z1.out.other (by omega)), Lib.hid (B1.out.setCell (by simp; omega) _)⟩
      · have ea : a = p := by simpa using ha
        have ec : c = q := by simpa using hc
        have ed : d = z := by simpa using hd
        rw [ea, ec, ed] at A
        clear ha hc hd ea ec ed
        obtain ⟨c0, c1, c2, f0, f1, f2⟩ := A.out
        go_wp2_with fail
        refine (L2.out _).mono ?_
        rintro e' v1 ⟨rfl, hb⟩
        have A1 := Lib.hid (A.out.go hb)
        have Z1 := Lib.hid (Z.out.go hb)
        have B1 := Lib.hid (B.out.trans (hb.mono B.out.size))
        clear hb c0 c1 c2 f0 f1 f2
        obtain ⟨c0, c1, c2, f0, f1, f2⟩ := A1.out
        go_wp2_with fail
        go_roundg (3 - 3)
        case measure => omega
        case rel => exact ⟨3, p, q, t, by omega, rfl, by go_num, rfl, rfl, rfl, Lib.hid (A1.out.set2 _), Lib.hid (Z1.out.other (by omega)), Lib.hid (B1.out.setCell (by simp; omega) _)⟩
      · obtain rfl : a = p := by simpa using ha
        obtain rfl : c = q := by simpa using hc
        obtain rfl : d = t := by simpa using hd
        clear ha hc hd
        obtain ⟨c0, c1, c2, f0, f1, f2⟩ := A.out
        go_wp2_with fail
        refine (U.out _).mono ?_
        rintro e' v1 ⟨rfl, hb⟩
        have Z1 := Lib.hid (Z.out.go hb)
        have B1 := Lib.hid (B.out.trans (hb.mono B.out.size))
        clear hb c0 c1 c2 f0 f1 f2
        go_wp2_with fail
        refine (N.out _).mono ?_
        rintro e' v2 ⟨rfl, hb⟩
        have Z2 := Lib.hid (Z1.out.go hb)
        have B2 := Lib.hid (B1.out.trans (hb.mono B1.out.size))
        clear hb
        obtain ⟨r0, r1, r2, r3, r4, r5⟩ := Z2.out
        go_wp2_with fail
        refine bodyPost_ret (v := .tuple #[.agg #[.int .i64 na, .int .i64 nb, .int .i64 nc], .int .i64 nd]) (by first | (simp [results, Try.results23, go_sem]; done) | (simp [results, Try.results23, go_sem, *]; done)) rfl ⟨rfl, ?_⟩
        repeat (first | exact Below.refl _ _ | exact B2.out | refine Below.setCell ?_ (by first | (simp; done) | omega | (simp; omega)) _ | refine Below.alloc ?_ (by first | (simp; done) | omega | (simp; omega)) _ | refine bel_drew ?_)

set_option maxRecDepth 100000 in
set_option maxHeartbeats 4000000 in
theorem implBlendV_any (x y z x' y' z' s : Int) (w : World) :
    Calls Try.prog 23 #[.agg #[.int .i64 x, .int .i64 y, .int .i64 z], .agg #[.int .i64 x', .int .i64 y', .int .i64 z'], .int .i64 s] w fun e w' => e = .returned (blendV x y z x' y' z' s) ∧ Below w.heap.size w w' := by
  have I := Lib.hid (fun w => validV_any x y z w)
  have J := Lib.hid (fun w => validV_any x' y' z' w)
  unfold blendV
  cases ho : okV x y z with
  | false =>
    rw [if_neg (by simp)]
    rw [ho] at I
    clear ho
    go_enter Try.func23, Try.ntmps23
    go_wp2_with fail
    refine (I.out _).mono ?_
    rintro e w1 ⟨rfl, hb⟩
    have hsw1 := hb.size
    try simp at hsw1
    obtain ⟨hcw1, hfw1⟩ := bcell hb
    have HBw1 : Hid (Below w.heap.size w w1) := by
      apply Lib.hid
      refine Below.trans ?_ (hb.mono ?_)
      · repeat (first | exact Below.refl _ _ | refine Below.setCell ?_ (by first | (simp; done) | omega | (simp; omega)) _ | refine Below.alloc ?_ (by first | (simp; done) | omega | (simp; omega)) _)
      · first | (simp; done) | omega | (simp; omega)
    have hzw1 : w.heap.size + 2 < w1.heap.size := by have := hb.size; (try simp at this); omega
    have hyw1 : w.heap.size + 1 < w1.heap.size := by have := hb.size; (try simp at this); omega
    have hxw1 : w.heap.size < w1.heap.size := by have := hb.size; (try simp at this); omega
    clear hb
    go_wp2_with fail
    refine bodyPost_ret (v := .tuple #[.agg #[.int .i64 0, .int .i64 0, .int .i64 0], .int .i64 1]) (by first | (simp [results, Try.results23, go_sem]; done) | (simp [results, Try.results23, go_sem, *]; done)) rfl ⟨rfl, ?_⟩
    repeat (first | exact Below.refl _ _ | exact HBw1.out | refine Below.setCell ?_ (by first | (simp; done) | omega | (simp; omega)) _ | refine Below.alloc ?_ (by first | (simp; done) | omega | (simp; omega)) _ | refine bel_drew ?_)
  | true =>
    rw [if_pos rfl]
    rw [ho] at I
    cases ho' : okV x' y' z' with
    | false =>
      rw [if_neg (by simp)]
      rw [ho'] at J
      clear ho ho'
      go_enter Try.func23, Try.ntmps23
      go_wp2_with fail
      refine (I.out _).mono ?_
      rintro e w1 ⟨rfl, hb⟩
      have hsw1 := hb.size
      try simp at hsw1
      obtain ⟨hcw1, hfw1⟩ := bcell hb
      have HBw1 : Hid (Below w.heap.size w w1) := by
        apply Lib.hid
        refine Below.trans ?_ (hb.mono ?_)
        · repeat (first | exact Below.refl _ _ | refine Below.setCell ?_ (by first | (simp; done) | omega | (simp; omega)) _ | refine Below.alloc ?_ (by first | (simp; done) | omega | (simp; omega)) _)
        · first | (simp; done) | omega | (simp; omega)
      have hzw1 : w.heap.size + 2 < w1.heap.size := by have := hb.size; (try simp at this); omega
      have hyw1 : w.heap.size + 1 < w1.heap.size := by have := hb.size; (try simp at this); omega
      have hxw1 : w.heap.size < w1.heap.size := by have := hb.size; (try simp at this); omega
      clear hb
      go_wp2_with fail
      refine (J.out _).mono ?_
      rintro e w2 ⟨rfl, hb⟩
      have hsw2 := hb.size
      try simp at hsw2
      obtain ⟨hcw2, hfw2⟩ := bcell hb
      have HBw2 : Hid (Below w.heap.size w w2) := by
        apply Lib.hid
        refine Below.trans ?_ (hb.mono ?_)
        · repeat (first | exact Below.refl _ _ | exact HBw1.out | refine Below.setCell ?_ (by first | (simp; done) | omega | (simp; omega)) _ | refine Below.alloc ?_ (by first | (simp; done) | omega | (simp; omega)) _)
        · first | (simp; done) | omega | (simp; omega)
      have hzw2 : w.heap.size + 2 < w2.heap.size := by have := hb.size; (try simp at this); omega
      have hyw2 : w.heap.size + 1 < w2.heap.size := by have := hb.size; (try simp at this); omega
      have hxw2 : w.heap.size < w2.heap.size := by have := hb.size; (try simp at this); omega
      clear hb
      first | (have gsw2w1 : w1.heap.size < w2.heap.size := by omega) | skip
      go_wp2_with fail
      refine bodyPost_ret (v := .tuple #[.agg #[.int .i64 0, .int .i64 0, .int .i64 0], .int .i64 1]) (by first | (simp [results, Try.results23, go_sem]; done) | (simp [results, Try.results23, go_sem, *]; done)) rfl ⟨rfl, ?_⟩
      repeat (first | exact Below.refl _ _ | exact HBw2.out | refine Below.setCell ?_ (by first | (simp; done) | omega | (simp; omega)) _ | refine Below.alloc ?_ (by first | (simp; done) | omega | (simp; omega)) _ | refine bel_drew ?_)
    | true =>
      rw [if_pos rfl]
      rw [ho'] at J
      cases hin : inR 0 1000 [s] with
      | false =>
        rw [if_neg (by simp)]
        have HI := Lib.hid hin
        clear ho ho' hin
        go_enter Try.func23, Try.ntmps23
        go_wp2_with fail
        refine (I.out _).mono ?_
        rintro e w1 ⟨rfl, hb⟩
        have hsw1 := hb.size
        try simp at hsw1
        obtain ⟨hcw1, hfw1⟩ := bcell hb
        have HBw1 : Hid (Below w.heap.size w w1) := by
          apply Lib.hid
          refine Below.trans ?_ (hb.mono ?_)
          · repeat (first | exact Below.refl _ _ | refine Below.setCell ?_ (by first | (simp; done) | omega | (simp; omega)) _ | refine Below.alloc ?_ (by first | (simp; done) | omega | (simp; omega)) _)
          · first | (simp; done) | omega | (simp; omega)
        have hzw1 : w.heap.size + 2 < w1.heap.size := by have := hb.size; (try simp at this); omega
        have hyw1 : w.heap.size + 1 < w1.heap.size := by have := hb.size; (try simp at this); omega
        have hxw1 : w.heap.size < w1.heap.size := by have := hb.size; (try simp at this); omega
        clear hb
        go_wp2_with fail
        refine (J.out _).mono ?_
        rintro e w2 ⟨rfl, hb⟩
        have hsw2 := hb.size
        try simp at hsw2
        obtain ⟨hcw2, hfw2⟩ := bcell hb
        have HBw2 : Hid (Below w.heap.size w w2) := by
          apply Lib.hid
          refine Below.trans ?_ (hb.mono ?_)
          · repeat (first | exact Below.refl _ _ | exact HBw1.out | refine Below.setCell ?_ (by first | (simp; done) | omega | (simp; omega)) _ | refine Below.alloc ?_ (by first | (simp; done) | omega | (simp; omega)) _)
          · first | (simp; done) | omega | (simp; omega)
        have hzw2 : w.heap.size + 2 < w2.heap.size := by have := hb.size; (try simp at this); omega
        have hyw2 : w.heap.size + 1 < w2.heap.size := by have := hb.size; (try simp at this); omega
        have hxw2 : w.heap.size < w2.heap.size := by have := hb.size; (try simp at this); omega
        clear hb
        first | (have gsw2w1 : w1.heap.size < w2.heap.size := by omega) | skip
        go_wp2_with fail
        refine (within1 _ _ s _ _ _ (by simp)).mono ?_
        rintro e w' ⟨rfl, rfl⟩
        rw [HI.out]
        go_wp2_with fail
        refine bodyPost_ret (v := .tuple #[.agg #[.int .i64 0, .int .i64 0, .int .i64 0], .int .i64 2]) (by first | (simp [results, Try.results23, go_sem]; done) | (simp [results, Try.results23, go_sem, *]; done)) rfl ⟨rfl, ?_⟩
        repeat (first | exact Below.refl _ _ | exact HBw2.out | refine Below.setCell ?_ (by first | (simp; done) | omega | (simp; omega)) _ | refine Below.alloc ?_ (by first | (simp; done) | omega | (simp; omega)) _ | refine bel_drew ?_)
      | true =>
        rw [if_pos rfl]
        exact implBlendV_in x y z x' y' z' s ho ho' hin w
end Go.Proofs.Ytoellkbmhpekdaa
