/-
  MoveMeshPoint (packages spec and impl).
-/
import Derived.Test.YtbbkohpmncfilaaMir
import Derived.Deep.Cut
import Derived.Deep.RegionLaw
import Derived.Deep.RegionHeld3
import Derived.Deep.AppendLies
namespace Go.Proofs.Ytbbkohpmncfilaa.Me
open Go.RowKit
open Sp (V Row)
set_option linter.unusedVariables false

/-- The boxes of a mesh and of a spot, and the result's block behind them. -/
structure Bun (b : Nat) (c r : Int) (u : Value) (x y : Int) (W : World) : Prop where
  m : MAt W b c r u
  p : PAt W (b + 1) x y
  z : W.heap[b + 2]? = some rz
theorem Bun.lt {b : Nat} {c r : Int} {u : Value} {x y : Int} {W : World} (h : Bun b c r u x y W) : b + 2 < W.heap.size := (Array.getElem?_eq_some_iff.1 h.z).1
theorem Bun.below {b : Nat} {c r : Int} {u : Value} {x y : Int} {W W' : World} (h : Bun b c r u x y W) (hb : Below W.heap.size W W') : Bun b c r u x y W' := ⟨h.m.below hb, h.p.below hb, (hb.block _ h.lt).trans h.z⟩
theorem rz_cells {W : World} {B : Nat} (h : W.heap[B]? = some rz) : (W.cell? ⟨B, 0, none⟩ = some (.int .i64 0) ∧ W.cell? ⟨B, 1, none⟩ = some (.int .i64 0) ∧ W.cell? ⟨B, 2, none⟩ = some (.slice none 0 0)) ∧ W.frozen? ⟨B, 0, none⟩ = false ∧ W.frozen? ⟨B, 1, none⟩ = false ∧ W.frozen? ⟨B, 2, none⟩ = false := by
  refine ⟨⟨?_, ?_, ?_⟩, ?_, ?_, ?_⟩ <;> simp [World.cell?, World.frozen?, h]
def inG (c r i j x y : Int) : Bool := inR 0 (c - 1) [i] && (inR 0 (r - 1) [j] && inR (-2000000) 2000000 [x, y])
def moveR (c r : Int) (zs : List V) (i j x y : Int) : MR := if meshB c r zs = true then (if inG c r i j x y = true then ((c, r, zs.set (j * c + i).toNat ⟨x, y⟩), 0) else mErr 2) else mErr 1
theorem moveR_len (c r : Int) (zs : List V) (i j x y : Int) : (moveR c r zs i j x y).1.2.2.length ≤ 1048576 := by
  unfold moveR
  split
  · rename_i h
    obtain ⟨C, R, rfl, rfl, hC, hR, hlen, h81, hall⟩ := meshB_parts h
    split
    · show (zs.set _ _).length ≤ _
      rw [List.length_set]
      omega
    · exact Nat.zero_le _
  · exact Nat.zero_le _
theorem mov_place {C R : Nat} {i j : Int} (hi : 0 ≤ i ∧ i ≤ (C : Int) - 1) (hj : 0 ≤ j ∧ j ≤ (R : Int) - 1) (h81 : C * R ≤ 81) : (0 ≤ j * (C : Int) ∧ j * (C : Int) ≤ 81) ∧ ∃ k : Nat, j * (C : Int) + i = (k : Int) ∧ k < C * R := by
  obtain ⟨x, rfl⟩ : ∃ x : Nat, i = (x : Int) := ⟨i.toNat, by omega⟩
  obtain ⟨y, rfl⟩ : ∃ y : Nat, j = (y : Int) := ⟨j.toNat, by omega⟩
  refine ⟨mir_mul (R := R) (by omega) h81, y * C + x, ?_, place_bd (by omega) (by omega)⟩
  have e : ((y * C : Nat) : Int) = (y : Int) * (C : Int) := Int.natCast_mul y C
  omega
theorem putAt_eq (w : World) (g o : Nat) (x y : Int) : (w.setCell ⟨g, o, none⟩ (.int .i64 x)).setCell ⟨g, o + 1, none⟩ (.int .i64 y) = Sp.putAt w g o ⟨x, y⟩ := rfl


theorem kp3 {W W' : World} {b0 b1 b2 o0 o1 o2 : Nat} {v0 v1 v2 : Value} (h : W.cell? ⟨b0, o0, none⟩ = some v0 ∧ W.cell? ⟨b1, o1, none⟩ = some v1 ∧ W.cell? ⟨b2, o2, none⟩ = some v2) (hb : Below W.heap.size W W') :
    W'.cell? ⟨b0, o0, none⟩ = some v0 ∧ W'.cell? ⟨b1, o1, none⟩ = some v1 ∧ W'.cell? ⟨b2, o2, none⟩ = some v2 ∧ Below W.heap.size W W' :=
  ⟨(hb.cell (p := ⟨b0, o0, none⟩) (World.block_lt_of_cell? W ⟨b0, o0, none⟩ h.1)).trans h.1, (hb.cell (p := ⟨b1, o1, none⟩) (World.block_lt_of_cell? W ⟨b1, o1, none⟩ h.2.1)).trans h.2.1, (hb.cell (p := ⟨b2, o2, none⟩) (World.block_lt_of_cell? W ⟨b2, o2, none⟩ h.2.2)).trans h.2.2, hb⟩
theorem set3B {w W : World} {A B : Nat} (h : Below A w W) (hB : A ≤ B) (a b c : Value) : Below A w (((W.setCell ⟨B, 0, none⟩ a).setCell ⟨B, 1, none⟩ b).setCell ⟨B, 2, none⟩ c) := ((h.setCell (p := ⟨B, 0, none⟩) hB _).setCell (p := ⟨B, 1, none⟩) hB _).setCell (p := ⟨B, 2, none⟩) hB _
theorem own_only {w : World} {B C g len cap : Nat} {zs : List V} (h : Sp.Own w B C (.slice (some ⟨g, 0, none⟩) len cap) zs) : Sp.Own w g (g + 1) (.slice (some ⟨g, 0, none⟩) len cap) zs := by
  obtain ⟨⟨hl, hcs⟩, hc⟩ := h
  refine ⟨⟨hl, ?_⟩, fun b hb => ?_⟩
  · rcases hcs with ⟨e, _⟩ | ⟨g', cap', cur, e, h1, h2⟩
    · cases e
    · have e' := e
      simp only [Value.slice.injEq, Option.some.injEq, Addr.mk.injEq] at e'
      obtain ⟨⟨rfl, _, _⟩, rfl, rfl⟩ := e'
      exact .inr ⟨g, cap, cur, rfl, Nat.le_refl _, h2⟩
  · have : g = b := by simpa [Value.ownBlock] using hb
    omega
theorem own_alloc {w : World} {B C : Nat} {v : Value} {zs : List V} (h : Sp.Own w B C v zs) (o : Obj) : Sp.Own (w.alloc o) B C v zs := h.below ((Below.refl _ _).alloc (Nat.le_refl _) _)
theorem set3_size {W : World} {n B : Nat} (h : n < W.heap.size) (a b c : Value) : n < (((W.setCell ⟨B, 0, none⟩ a).setCell ⟨B, 1, none⟩ b).setCell ⟨B, 2, none⟩ c).heap.size := by simpa using h
theorem set3_heap {W : World} {B : Nat} (h : W.heap[B]? = some rz) (a b c : Value) : (((W.setCell ⟨B, 0, none⟩ a).setCell ⟨B, 1, none⟩ b).setCell ⟨B, 2, none⟩ c).heap[B]? = some (.cells #[a, b, c] 29 (0, 0)) := by
  have st : ∀ (W : World) (i : Nat) (v : Value) (cs : Array Value), W.heap[B]? = some (.cells cs 29 (0, 0)) → (W.setCell ⟨B, i, none⟩ v).heap[B]? = some (.cells (cs.setIfInBounds i v) 29 (0, 0)) := by
    intro W i v cs h
    obtain ⟨hlt, hk⟩ := Array.getElem?_eq_some_iff.1 h
    show (W.heap.modify B _)[B]? = _
    rw [Array.getElem?_eq_getElem (by rw [Array.size_modify]; exact hlt), Array.getElem_modify_self, hk]
    rfl
  exact st _ 2 c _ (st _ 1 b _ (st _ 0 a _ h))
theorem set3_own {W : World} {B g len cap : Nat} {zs : List V} (h : Sp.Own W g (g + 1) (.slice (some ⟨g, 0, none⟩) len cap) zs) (hne : g ≠ B) (a b c : Value) : Sp.Own (((W.setCell ⟨B, 0, none⟩ a).setCell ⟨B, 1, none⟩ b).setCell ⟨B, 2, none⟩ c) g (g + 1) (.slice (some ⟨g, 0, none⟩) len cap) zs := by
  refine Sp.Own.mod h (B' := B) (C' := B + 1) ?_ (by omega)
  exact ((((Mod.refl _ _ _).setCell (Nat.le_refl _) (Nat.lt_succ_self _) _).setCell (Nat.le_refl _) (Nat.lt_succ_self _) _).setCell (Nat.le_refl _) (Nat.lt_succ_self _) _)
abbrev ez : Obj := .cells #[] 39 (0, 0)
theorem grownAt {W w4 : World} {B blk : Nat} {o : Obj} (hg : W.grownBy w4 (some blk)) (h : W.heap[B]? = some o) (hne : B ≠ blk) : w4.heap[B]? = some o :=
  (hg.block B (Array.getElem?_eq_some_iff.1 h).1 (fun e => hne (by simpa using e))).trans h
theorem ownedA (w : World) : ((w.drew.alloc rz).alloc ez).ownsRow w.heap.size 39 2 (.slice (some ⟨w.heap.size + 1, 0, none⟩) 0 0) 0 [] := by
  have h := World.ownsRow_made (base := w.heap.size) (e := 39) (size := 2) (w.drew.alloc rz) #[] 0 (by simp) (Nat.zero_le _) rfl
  simpa using h
theorem ownedC (w : World) : (w.drew.alloc ez).ownsRow w.heap.size 39 2 (.slice (some ⟨w.heap.size, 0, none⟩) 0 0) 0 [] := by
  have h := World.ownsRow_made (base := w.heap.size) (e := 39) (size := 2) w.drew #[] 0 (by simp) (Nat.zero_le _) rfl
  simpa using h
theorem ownedB (w : World) : ((w.drew.alloc ez).alloc rz).ownsRow w.heap.size 39 2 (.slice (some ⟨w.heap.size, 0, none⟩) 0 0) 0 [] := (ownedC w).alloc rz
theorem twoB (w : World) (o o' : Obj) : Below w.heap.size w ((w.drew.alloc o).alloc o') := by
  have h : Below w.heap.size w ((w.alloc o).alloc o') := ((Below.refl _ _).alloc (Nat.le_refl _) _).alloc (by simp) _
  exact ⟨h.os, h.tape, h.output, h.size, h.block⟩
theorem oneB (w : World) (o : Obj) : Below w.heap.size w (w.drew.alloc o) := by
  have h : Below w.heap.size w (w.alloc o) := (Below.refl _ _).alloc (Nat.le_refl _) _
  exact ⟨h.os, h.tape, h.output, h.size, h.block⟩
/-- The copied row, behind its append. -/
theorem copied {w W w4 : World} {g4 c4 blk : Nat} {zs : List V} (hb : Below w.heap.size w W) (hblk : w.heap.size ≤ blk) (ho : w4.ownsRow w.heap.size 39 2 (.slice (some ⟨g4, 0, none⟩) (0 + zs.length) c4) (0 + zs.length) ([] ++ Sp.flat zs)) (hg : W.grownBy w4 (some blk)) :
    Sp.Own w4 w.heap.size w4.heap.size (.slice (some ⟨g4, 0, none⟩) zs.length c4) zs ∧ Below w.heap.size w w4 := by
  refine ⟨Sp.Own.mk (by simpa using ho), hb.grown hg hb.size (fun k hk => ?_)⟩
  have : blk = k := by simpa using hk
  omega


set_option maxRecDepth 100000 in
set_option maxHeartbeats 4000000 in
theorem implMove_any (c r : Int) (g cap : Nat) (zs : List V) (i j x y : Int) (w : World) (hb : zs.length ≤ 1048577) (h1 : Row w g zs) :
    Calls Try.prog 42 #[.agg #[.int .i64 c, .int .i64 r, .slice (some ⟨g, 0, none⟩) zs.length cap], .int .i64 i, .int .i64 j, .agg #[.int .i64 x, .int .i64 y]] w (MPost (moveR c r zs i j x y) w) := by
  have H1 := Lib.hid h1
  have hlg := h1.lt
  clear h1
  have OK := Lib.hid (fun w h1 => validMesh_any c r g cap zs w hb h1)
  have OP := Lib.hid (fun w => onPlane_any x y w)
  unfold moveR
  cases hm : meshB c r zs with
  | false =>
    rw [hm] at OK
    rw [if_neg (by simp)]
    clear hm
    go_enter Try.func42, Try.ntmps42
    go_wp2_with fail
    obtain ⟨W0, hW0⟩ : ∃ W, W = ((w.alloc (Obj.cells #[Value.int IntKind.i64 c, Value.int IntKind.i64 r, Value.slice (some ⟨g, 0, none⟩) zs.length cap] 29)).alloc (Obj.cells #[Value.int IntKind.i64 x, Value.int IntKind.i64 y] 39)).alloc (Obj.cells #[Value.int IntKind.i64 0, Value.int IntKind.i64 0, Value.slice none 0 0] 29) := ⟨_, rfl⟩
    rw [← hW0]
    have HB0 : Hid (Below w.heap.size w W0) := Lib.hid (by
      rw [hW0]
      repeat (first | exact Below.refl _ _ | refine Below.setCell ?_ (by first | (simp; done) | omega | (simp; omega)) _ | refine Below.alloc ?_ (by first | (simp; done) | omega | (simp; omega)) _ | refine bel_drew ?_)
      )
    have B0 : Hid (Bun w.heap.size c r (.slice (some ⟨g, 0, none⟩) zs.length cap) x y W0) := Lib.hid (by
      rw [hW0]
      refine ⟨((MAt.new w _ _ _ _).below ((Below.refl _ _).alloc (Nat.le_refl _) _)).below ((Below.refl _ _).alloc (Nat.le_refl _) _), ?_, ?_⟩
      · have e := (PAt.new (w.alloc (Obj.cells #[Value.int IntKind.i64 c, Value.int IntKind.i64 r, Value.slice (some ⟨g, 0, none⟩) zs.length cap] 29)) x y 39).below ((Below.refl _ _).alloc (Nat.le_refl _) (Obj.cells #[Value.int IntKind.i64 0, Value.int IntKind.i64 0, Value.slice none 0 0] 29))
        rw [World.size_alloc] at e
        exact e
      · have e := World.alloc_heap_new ((w.alloc (Obj.cells #[Value.int IntKind.i64 c, Value.int IntKind.i64 r, Value.slice (some ⟨g, 0, none⟩) zs.length cap] 29)).alloc (Obj.cells #[Value.int IntKind.i64 x, Value.int IntKind.i64 y] 39)) rz
        rw [World.size_alloc, World.size_alloc] at e
        exact e)
    clear hW0
    refine (OK.out _ (H1.out.below HB0.out)).mono ?_
    rintro e w1 ⟨rfl, hb1⟩
    have HB1 := Lib.hid (HB0.out.trans (hb1.mono HB0.out.size))
    have B1 := Lib.hid (B0.out.below hb1)
    have hs1 := hb1.size
    clear hb1
    clear B0
    obtain ⟨m0, m1, m2⟩ := B1.out.m
    obtain ⟨p0, p1⟩ := B1.out.p
    obtain ⟨⟨r0, r1, r2⟩, f0, f1, f2⟩ := rz_cells B1.out.z
    have bl := B1.out.lt
    go_wp2_with fail
    refine bodyPost_ret (v := .tuple #[.agg #[.int .i64 0, .int .i64 0, .slice none 0 0], .int .i64 1]) (by simp [results, Try.results42, go_sem, r0, r1, r2]) rfl ⟨_, rfl, Sp.Own.nil _ _ _, ?_⟩
    repeat (first | exact Below.refl _ _ | exact HB1.out | refine Below.setCell ?_ (by first | (simp; done) | omega | (simp; omega)) _ | refine Below.alloc ?_ (by first | (simp; done) | omega | (simp; omega)) _ | refine bel_drew ?_)
  | true =>
    rw [hm] at OK
    rw [if_pos rfl]
    obtain ⟨C, R, rfl, rfl, hC, hR, hlen, h81, hall⟩ := meshB_parts hm
    have HLEN := Lib.hid hlen
    clear hlen hall hm
    unfold inG
    have I1 := Lib.hid (fun b cap w hc => within1 0 ((C : Int) - 1) i b cap w hc)
    have I2 := Lib.hid (fun b cap w hc => within1 0 ((R : Int) - 1) j b cap w hc)
    cases e1 : inR 0 ((C : Int) - 1) [i] with
    | false =>
      rw [e1] at I1
      rw [Bool.false_and, if_neg (by simp)]
      clear e1
      go_enter Try.func42, Try.ntmps42
      go_wp2_with fail
      obtain ⟨W0, hW0⟩ : ∃ W, W = ((w.alloc (Obj.cells #[Value.int IntKind.i64 (C : Int), Value.int IntKind.i64 (R : Int), Value.slice (some ⟨g, 0, none⟩) zs.length cap] 29)).alloc (Obj.cells #[Value.int IntKind.i64 x, Value.int IntKind.i64 y] 39)).alloc (Obj.cells #[Value.int IntKind.i64 0, Value.int IntKind.i64 0, Value.slice none 0 0] 29) := ⟨_, rfl⟩
      rw [← hW0]
      have HB0 : Hid (Below w.heap.size w W0) := Lib.hid (by
        rw [hW0]
        repeat (first | exact Below.refl _ _ | refine Below.setCell ?_ (by first | (simp; done) | omega | (simp; omega)) _ | refine Below.alloc ?_ (by first | (simp; done) | omega | (simp; omega)) _ | refine bel_drew ?_)
        )
      have B0 : Hid (Bun w.heap.size (C : Int) (R : Int) (.slice (some ⟨g, 0, none⟩) zs.length cap) x y W0) := Lib.hid (by
        rw [hW0]
        refine ⟨((MAt.new w _ _ _ _).below ((Below.refl _ _).alloc (Nat.le_refl _) _)).below ((Below.refl _ _).alloc (Nat.le_refl _) _), ?_, ?_⟩
        · have e := (PAt.new (w.alloc (Obj.cells #[Value.int IntKind.i64 (C : Int), Value.int IntKind.i64 (R : Int), Value.slice (some ⟨g, 0, none⟩) zs.length cap] 29)) x y 39).below ((Below.refl _ _).alloc (Nat.le_refl _) (Obj.cells #[Value.int IntKind.i64 0, Value.int IntKind.i64 0, Value.slice none 0 0] 29))
          rw [World.size_alloc] at e
          exact e
        · have e := World.alloc_heap_new ((w.alloc (Obj.cells #[Value.int IntKind.i64 (C : Int), Value.int IntKind.i64 (R : Int), Value.slice (some ⟨g, 0, none⟩) zs.length cap] 29)).alloc (Obj.cells #[Value.int IntKind.i64 x, Value.int IntKind.i64 y] 39)) rz
          rw [World.size_alloc, World.size_alloc] at e
          exact e)
      clear hW0
      refine (OK.out _ (H1.out.below HB0.out)).mono ?_
      rintro e w1 ⟨rfl, hb1⟩
      have HB1 := Lib.hid (HB0.out.trans (hb1.mono HB0.out.size))
      have B1 := Lib.hid (B0.out.below hb1)
      have hs1 := hb1.size
      clear hb1
      clear B0
      obtain ⟨m0, m1, m2⟩ := B1.out.m
      obtain ⟨p0, p1⟩ := B1.out.p
      obtain ⟨⟨r0, r1, r2⟩, f0, f1, f2⟩ := rz_cells B1.out.z
      have bl := B1.out.lt
      go_wp2_with fail
      refine (I1.out _ _ _ (by simp)).mono ?_
      rintro e wi1 ⟨rfl, rfl⟩
      obtain ⟨wa1, hwa1⟩ : ∃ W, W = w1.alloc (Obj.cells #[Value.int IntKind.i64 i] 2) := ⟨_, rfl⟩
      rw [← hwa1]
      have hba1 : Below w1.heap.size w1 wa1 := by rw [hwa1]; exact (Below.refl _ _).alloc (Nat.le_refl _) _
      have HBa1 := Lib.hid (HB1.out.trans (hba1.mono HB1.out.size))
      have Ba1 := Lib.hid (B1.out.below hba1)
      clear hwa1 hba1
      clear m0 m1 m2 p0 p1 r0 r1 r2 f0 f1 f2 bl
      obtain ⟨m0, m1, m2⟩ := Ba1.out.m
      obtain ⟨p0, p1⟩ := Ba1.out.p
      obtain ⟨⟨r0, r1, r2⟩, f0, f1, f2⟩ := rz_cells Ba1.out.z
      have bl := Ba1.out.lt
      go_wp2_with fail
      refine bodyPost_ret (v := .tuple #[.agg #[.int .i64 0, .int .i64 0, .slice none 0 0], .int .i64 2]) (by simp [results, Try.results42, go_sem, r0, r1, r2]) rfl ⟨_, rfl, Sp.Own.nil _ _ _, ?_⟩
      repeat (first | exact Below.refl _ _ | exact HBa1.out | refine Below.setCell ?_ (by first | (simp; done) | omega | (simp; omega)) _ | refine Below.alloc ?_ (by first | (simp; done) | omega | (simp; omega)) _ | refine bel_drew ?_)
    | true =>
      rw [e1] at I1
      rw [Bool.true_and]
      cases e2 : inR 0 ((R : Int) - 1) [j] with
      | false =>
        rw [e2] at I2
        rw [Bool.false_and, if_neg (by simp)]
        clear e1 e2
        go_enter Try.func42, Try.ntmps42
        go_wp2_with fail
        obtain ⟨W0, hW0⟩ : ∃ W, W = ((w.alloc (Obj.cells #[Value.int IntKind.i64 (C : Int), Value.int IntKind.i64 (R : Int), Value.slice (some ⟨g, 0, none⟩) zs.length cap] 29)).alloc (Obj.cells #[Value.int IntKind.i64 x, Value.int IntKind.i64 y] 39)).alloc (Obj.cells #[Value.int IntKind.i64 0, Value.int IntKind.i64 0, Value.slice none 0 0] 29) := ⟨_, rfl⟩
        rw [← hW0]
        have HB0 : Hid (Below w.heap.size w W0) := Lib.hid (by
          rw [hW0]
          repeat (first | exact Below.refl _ _ | refine Below.setCell ?_ (by first | (simp; done) | omega | (simp; omega)) _ | refine Below.alloc ?_ (by first | (simp; done) | omega | (simp; omega)) _ | refine bel_drew ?_)
          )
        have B0 : Hid (Bun w.heap.size (C : Int) (R : Int) (.slice (some ⟨g, 0, none⟩) zs.length cap) x y W0) := Lib.hid (by
          rw [hW0]
          refine ⟨((MAt.new w _ _ _ _).below ((Below.refl _ _).alloc (Nat.le_refl _) _)).below ((Below.refl _ _).alloc (Nat.le_refl _) _), ?_, ?_⟩
          · have e := (PAt.new (w.alloc (Obj.cells #[Value.int IntKind.i64 (C : Int), Value.int IntKind.i64 (R : Int), Value.slice (some ⟨g, 0, none⟩) zs.length cap] 29)) x y 39).below ((Below.refl _ _).alloc (Nat.le_refl _) (Obj.cells #[Value.int IntKind.i64 0, Value.int IntKind.i64 0, Value.slice none 0 0] 29))
            rw [World.size_alloc] at e
            exact e
          · have e := World.alloc_heap_new ((w.alloc (Obj.cells #[Value.int IntKind.i64 (C : Int), Value.int IntKind.i64 (R : Int), Value.slice (some ⟨g, 0, none⟩) zs.length cap] 29)).alloc (Obj.cells #[Value.int IntKind.i64 x, Value.int IntKind.i64 y] 39)) rz
            rw [World.size_alloc, World.size_alloc] at e
            exact e)
        clear hW0
        refine (OK.out _ (H1.out.below HB0.out)).mono ?_
        rintro e w1 ⟨rfl, hb1⟩
        have HB1 := Lib.hid (HB0.out.trans (hb1.mono HB0.out.size))
        have B1 := Lib.hid (B0.out.below hb1)
        have hs1 := hb1.size
        clear hb1
        clear B0
        obtain ⟨m0, m1, m2⟩ := B1.out.m
        obtain ⟨p0, p1⟩ := B1.out.p
        obtain ⟨⟨r0, r1, r2⟩, f0, f1, f2⟩ := rz_cells B1.out.z
        have bl := B1.out.lt
        go_wp2_with fail
        refine (I1.out _ _ _ (by simp)).mono ?_
        rintro e wi1 ⟨rfl, rfl⟩
        obtain ⟨wa1, hwa1⟩ : ∃ W, W = w1.alloc (Obj.cells #[Value.int IntKind.i64 i] 2) := ⟨_, rfl⟩
        rw [← hwa1]
        have hba1 : Below w1.heap.size w1 wa1 := by rw [hwa1]; exact (Below.refl _ _).alloc (Nat.le_refl _) _
        have HBa1 := Lib.hid (HB1.out.trans (hba1.mono HB1.out.size))
        have Ba1 := Lib.hid (B1.out.below hba1)
        clear hwa1 hba1
        clear m0 m1 m2 p0 p1 r0 r1 r2 f0 f1 f2 bl
        obtain ⟨m0, m1, m2⟩ := Ba1.out.m
        obtain ⟨p0, p1⟩ := Ba1.out.p
        obtain ⟨⟨r0, r1, r2⟩, f0, f1, f2⟩ := rz_cells Ba1.out.z
        have bl := Ba1.out.lt
        go_wp2_with fail
        refine (I2.out _ _ _ (by simp)).mono ?_
        rintro e wi2 ⟨rfl, rfl⟩
        obtain ⟨wa2, hwa2⟩ : ∃ W, W = wa1.alloc (Obj.cells #[Value.int IntKind.i64 j] 2) := ⟨_, rfl⟩
        rw [← hwa2]
        have hba2 : Below wa1.heap.size wa1 wa2 := by rw [hwa2]; exact (Below.refl _ _).alloc (Nat.le_refl _) _
        have HBa2 := Lib.hid (HBa1.out.trans (hba2.mono HBa1.out.size))
        have Ba2 := Lib.hid (Ba1.out.below hba2)
        clear hwa2 hba2
        clear m0 m1 m2 p0 p1 r0 r1 r2 f0 f1 f2 bl
        obtain ⟨m0, m1, m2⟩ := Ba2.out.m
        obtain ⟨p0, p1⟩ := Ba2.out.p
        obtain ⟨⟨r0, r1, r2⟩, f0, f1, f2⟩ := rz_cells Ba2.out.z
        have bl := Ba2.out.lt
        go_wp2_with fail
        refine bodyPost_ret (v := .tuple #[.agg #[.int .i64 0, .int .i64 0, .slice none 0 0], .int .i64 2]) (by simp [results, Try.results42, go_sem, r0, r1, r2]) rfl ⟨_, rfl, Sp.Own.nil _ _ _, ?_⟩
        repeat (first | exact Below.refl _ _ | exact HBa2.out | refine Below.setCell ?_ (by first | (simp; done) | omega | (simp; omega)) _ | refine Below.alloc ?_ (by first | (simp; done) | omega | (simp; omega)) _ | refine bel_drew ?_)
      | true =>
        rw [e2] at I2
        rw [Bool.true_and]
        cases e3 : inR (-2000000) 2000000 [x, y] with
        | false =>
          rw [e3] at OP
          rw [if_neg (by simp)]
          clear e1 e2 e3
          go_enter Try.func42, Try.ntmps42
          go_wp2_with fail
          obtain ⟨W0, hW0⟩ : ∃ W, W = ((w.alloc (Obj.cells #[Value.int IntKind.i64 (C : Int), Value.int IntKind.i64 (R : Int), Value.slice (some ⟨g, 0, none⟩) zs.length cap] 29)).alloc (Obj.cells #[Value.int IntKind.i64 x, Value.int IntKind.i64 y] 39)).alloc (Obj.cells #[Value.int IntKind.i64 0, Value.int IntKind.i64 0, Value.slice none 0 0] 29) := ⟨_, rfl⟩
          rw [← hW0]
          have HB0 : Hid (Below w.heap.size w W0) := Lib.hid (by
            rw [hW0]
            repeat (first | exact Below.refl _ _ | refine Below.setCell ?_ (by first | (simp; done) | omega | (simp; omega)) _ | refine Below.alloc ?_ (by first | (simp; done) | omega | (simp; omega)) _ | refine bel_drew ?_)
            )
          have B0 : Hid (Bun w.heap.size (C : Int) (R : Int) (.slice (some ⟨g, 0, none⟩) zs.length cap) x y W0) := Lib.hid (by
            rw [hW0]
            refine ⟨((MAt.new w _ _ _ _).below ((Below.refl _ _).alloc (Nat.le_refl _) _)).below ((Below.refl _ _).alloc (Nat.le_refl _) _), ?_, ?_⟩
            · have e := (PAt.new (w.alloc (Obj.cells #[Value.int IntKind.i64 (C : Int), Value.int IntKind.i64 (R : Int), Value.slice (some ⟨g, 0, none⟩) zs.length cap] 29)) x y 39).below ((Below.refl _ _).alloc (Nat.le_refl _) (Obj.cells #[Value.int IntKind.i64 0, Value.int IntKind.i64 0, Value.slice none 0 0] 29))
              rw [World.size_alloc] at e
              exact e
            · have e := World.alloc_heap_new ((w.alloc (Obj.cells #[Value.int IntKind.i64 (C : Int), Value.int IntKind.i64 (R : Int), Value.slice (some ⟨g, 0, none⟩) zs.length cap] 29)).alloc (Obj.cells #[Value.int IntKind.i64 x, Value.int IntKind.i64 y] 39)) rz
              rw [World.size_alloc, World.size_alloc] at e
              exact e)
          clear hW0
          refine (OK.out _ (H1.out.below HB0.out)).mono ?_
          rintro e w1 ⟨rfl, hb1⟩
          have HB1 := Lib.hid (HB0.out.trans (hb1.mono HB0.out.size))
          have B1 := Lib.hid (B0.out.below hb1)
          have hs1 := hb1.size
          clear hb1
          clear B0
          obtain ⟨m0, m1, m2⟩ := B1.out.m
          obtain ⟨p0, p1⟩ := B1.out.p
          obtain ⟨⟨r0, r1, r2⟩, f0, f1, f2⟩ := rz_cells B1.out.z
          have bl := B1.out.lt
          go_wp2_with fail
          refine (I1.out _ _ _ (by simp)).mono ?_
          rintro e wi1 ⟨rfl, rfl⟩
          obtain ⟨wa1, hwa1⟩ : ∃ W, W = w1.alloc (Obj.cells #[Value.int IntKind.i64 i] 2) := ⟨_, rfl⟩
          rw [← hwa1]
          have hba1 : Below w1.heap.size w1 wa1 := by rw [hwa1]; exact (Below.refl _ _).alloc (Nat.le_refl _) _
          have HBa1 := Lib.hid (HB1.out.trans (hba1.mono HB1.out.size))
          have Ba1 := Lib.hid (B1.out.below hba1)
          clear hwa1 hba1
          clear m0 m1 m2 p0 p1 r0 r1 r2 f0 f1 f2 bl
          obtain ⟨m0, m1, m2⟩ := Ba1.out.m
          obtain ⟨p0, p1⟩ := Ba1.out.p
          obtain ⟨⟨r0, r1, r2⟩, f0, f1, f2⟩ := rz_cells Ba1.out.z
          have bl := Ba1.out.lt
          go_wp2_with fail
          refine (I2.out _ _ _ (by simp)).mono ?_
          rintro e wi2 ⟨rfl, rfl⟩
          obtain ⟨wa2, hwa2⟩ : ∃ W, W = wa1.alloc (Obj.cells #[Value.int IntKind.i64 j] 2) := ⟨_, rfl⟩
          rw [← hwa2]
          have hba2 : Below wa1.heap.size wa1 wa2 := by rw [hwa2]; exact (Below.refl _ _).alloc (Nat.le_refl _) _
          have HBa2 := Lib.hid (HBa1.out.trans (hba2.mono HBa1.out.size))
          have Ba2 := Lib.hid (Ba1.out.below hba2)
          clear hwa2 hba2
          clear m0 m1 m2 p0 p1 r0 r1 r2 f0 f1 f2 bl
          obtain ⟨m0, m1, m2⟩ := Ba2.out.m
          obtain ⟨p0, p1⟩ := Ba2.out.p
          obtain ⟨⟨r0, r1, r2⟩, f0, f1, f2⟩ := rz_cells Ba2.out.z
          have bl := Ba2.out.lt
          go_wp2_with fail
          refine (OP.out _).mono ?_
          rintro e w2 ⟨rfl, hb2⟩
          have HB2 := Lib.hid (HBa2.out.trans (hb2.mono HBa2.out.size))
          have B2 := Lib.hid (Ba2.out.below hb2)
          have hs2 := hb2.size
          clear hb2
          clear m0 m1 m2 p0 p1 r0 r1 r2 f0 f1 f2 bl
          obtain ⟨m0, m1, m2⟩ := B2.out.m
          obtain ⟨p0, p1⟩ := B2.out.p
          obtain ⟨⟨r0, r1, r2⟩, f0, f1, f2⟩ := rz_cells B2.out.z
          have bl := B2.out.lt
          go_wp2_with fail
          refine bodyPost_ret (v := .tuple #[.agg #[.int .i64 0, .int .i64 0, .slice none 0 0], .int .i64 2]) (by simp [results, Try.results42, go_sem, r0, r1, r2]) rfl ⟨_, rfl, Sp.Own.nil _ _ _, ?_⟩
          repeat (first | exact Below.refl _ _ | exact HB2.out | refine Below.setCell ?_ (by first | (simp; done) | omega | (simp; omega)) _ | refine Below.alloc ?_ (by first | (simp; done) | omega | (simp; omega)) _ | refine bel_drew ?_)
        | true =>
          rw [e3] at OP
          rw [if_pos rfl]
          rw [inR_1] at e1 e2
          obtain ⟨jb, k, ek, hk⟩ := mov_place e1 e2 h81
          have hk1 : k < zs.length := by rw [HLEN.out]; exact hk
          have hl100 : zs.length ≤ 100 := by rw [HLEN.out]; omega
          rw [ek, Int.toNat_natCast]
          clear e3
          have CL := Lib.hid (fun w h1 => Sp.clone_any g cap zs w hb h1)
          go_enter Try.func42, Try.ntmps42
          go_wp2_with fail
          obtain ⟨W0, hW0⟩ : ∃ W, W = ((w.alloc (Obj.cells #[Value.int IntKind.i64 (C : Int), Value.int IntKind.i64 (R : Int), Value.slice (some ⟨g, 0, none⟩) zs.length cap] 29)).alloc (Obj.cells #[Value.int IntKind.i64 x, Value.int IntKind.i64 y] 39)).alloc (Obj.cells #[Value.int IntKind.i64 0, Value.int IntKind.i64 0, Value.slice none 0 0] 29) := ⟨_, rfl⟩
          rw [← hW0]
          have HB0 : Hid (Below w.heap.size w W0) := Lib.hid (by
            rw [hW0]
            repeat (first | exact Below.refl _ _ | refine Below.setCell ?_ (by first | (simp; done) | omega | (simp; omega)) _ | refine Below.alloc ?_ (by first | (simp; done) | omega | (simp; omega)) _ | refine bel_drew ?_)
            )
          have B0 : Hid (Bun w.heap.size (C : Int) (R : Int) (.slice (some ⟨g, 0, none⟩) zs.length cap) x y W0) := Lib.hid (by
            rw [hW0]
            refine ⟨((MAt.new w _ _ _ _).below ((Below.refl _ _).alloc (Nat.le_refl _) _)).below ((Below.refl _ _).alloc (Nat.le_refl _) _), ?_, ?_⟩
            · have e := (PAt.new (w.alloc (Obj.cells #[Value.int IntKind.i64 (C : Int), Value.int IntKind.i64 (R : Int), Value.slice (some ⟨g, 0, none⟩) zs.length cap] 29)) x y 39).below ((Below.refl _ _).alloc (Nat.le_refl _) (Obj.cells #[Value.int IntKind.i64 0, Value.int IntKind.i64 0, Value.slice none 0 0] 29))
              rw [World.size_alloc] at e
              exact e
            · have e := World.alloc_heap_new ((w.alloc (Obj.cells #[Value.int IntKind.i64 (C : Int), Value.int IntKind.i64 (R : Int), Value.slice (some ⟨g, 0, none⟩) zs.length cap] 29)).alloc (Obj.cells #[Value.int IntKind.i64 x, Value.int IntKind.i64 y] 39)) rz
              rw [World.size_alloc, World.size_alloc] at e
              exact e)
          clear hW0
          refine (OK.out _ (H1.out.below HB0.out)).mono ?_
          rintro e w1 ⟨rfl, hb1⟩
          have HB1 := Lib.hid (HB0.out.trans (hb1.mono HB0.out.size))
          have B1 := Lib.hid (B0.out.below hb1)
          have hs1 := hb1.size
          clear hb1
          clear B0
          obtain ⟨m0, m1, m2⟩ := B1.out.m
          obtain ⟨p0, p1⟩ := B1.out.p
          obtain ⟨⟨r0, r1, r2⟩, f0, f1, f2⟩ := rz_cells B1.out.z
          have bl := B1.out.lt
          go_wp2_with fail
          refine (I1.out _ _ _ (by simp)).mono ?_
          rintro e wi1 ⟨rfl, rfl⟩
          obtain ⟨wa1, hwa1⟩ : ∃ W, W = w1.alloc (Obj.cells #[Value.int IntKind.i64 i] 2) := ⟨_, rfl⟩
          rw [← hwa1]
          have hba1 : Below w1.heap.size w1 wa1 := by rw [hwa1]; exact (Below.refl _ _).alloc (Nat.le_refl _) _
          have HBa1 := Lib.hid (HB1.out.trans (hba1.mono HB1.out.size))
          have Ba1 := Lib.hid (B1.out.below hba1)
          clear hwa1 hba1
          clear m0 m1 m2 p0 p1 r0 r1 r2 f0 f1 f2 bl
          obtain ⟨m0, m1, m2⟩ := Ba1.out.m
          obtain ⟨p0, p1⟩ := Ba1.out.p
          obtain ⟨⟨r0, r1, r2⟩, f0, f1, f2⟩ := rz_cells Ba1.out.z
          have bl := Ba1.out.lt
          go_wp2_with fail
          refine (I2.out _ _ _ (by simp)).mono ?_
          rintro e wi2 ⟨rfl, rfl⟩
          obtain ⟨wa2, hwa2⟩ : ∃ W, W = wa1.alloc (Obj.cells #[Value.int IntKind.i64 j] 2) := ⟨_, rfl⟩
          rw [← hwa2]
          have hba2 : Below wa1.heap.size wa1 wa2 := by rw [hwa2]; exact (Below.refl _ _).alloc (Nat.le_refl _) _
          have HBa2 := Lib.hid (HBa1.out.trans (hba2.mono HBa1.out.size))
          have Ba2 := Lib.hid (Ba1.out.below hba2)
          clear hwa2 hba2
          clear m0 m1 m2 p0 p1 r0 r1 r2 f0 f1 f2 bl
          obtain ⟨m0, m1, m2⟩ := Ba2.out.m
          obtain ⟨p0, p1⟩ := Ba2.out.p
          obtain ⟨⟨r0, r1, r2⟩, f0, f1, f2⟩ := rz_cells Ba2.out.z
          have bl := Ba2.out.lt
          go_wp2_with fail
          refine (OP.out _).mono ?_
          rintro e w2 ⟨rfl, hb2⟩
          have HB2 := Lib.hid (HBa2.out.trans (hb2.mono HBa2.out.size))
          have B2 := Lib.hid (Ba2.out.below hb2)
          have hs2 := hb2.size
          clear hb2
          clear m0 m1 m2 p0 p1 r0 r1 r2 f0 f1 f2 bl
          obtain ⟨m0, m1, m2⟩ := B2.out.m
          obtain ⟨p0, p1⟩ := B2.out.p
          obtain ⟨⟨r0, r1, r2⟩, f0, f1, f2⟩ := rz_cells B2.out.z
          have bl := B2.out.lt
          go_wp2_with fail
          refine (CL.out _ (H1.out.below HB2.out)).mono ?_
          rintro e w3 ⟨v, rfl, ho, hnu, hb3⟩
          rcases ho.forms with ⟨rfl, hnil⟩ | ⟨G, cap2, rfl, hG1, hG2, hG3⟩
          · exact absurd rfl hnu
          have bl2 := B2.out.lt
          have bl3 : w.heap.size < w2.heap.size := by omega
          have HB3 := Lib.hid (HB2.out.trans (hb3.mono HB2.out.size))
          have B3 := Lib.hid (B2.out.below hb3)
          have hs3 := hb3.size
          clear hb3
          clear m0 m1 m2 p0 p1 r0 r1 r2 f0 f1 f2 bl
          obtain ⟨m0, m1, m2⟩ := B3.out.m
          obtain ⟨p0, p1⟩ := B3.out.p
          obtain ⟨⟨r0, r1, r2⟩, f0, f1, f2⟩ := rz_cells B3.out.z
          have bl := B3.out.lt
          obtain ⟨c0, c1⟩ := ho.at k hk1
          have fr0 := ho.free (k * 2)
          have fr1 := ho.free (k * 2 + 1)
          have OP := ho.put k hk1 ⟨x, y⟩
          have O4 := Lib.hid OP
          have hk2 : (k : Int) < (zs.length : Int) := by omega
          have hGn0 : w.heap.size ≠ G := by omega
          have hGn1 : w.heap.size + 1 ≠ G := by omega
          have hGn2 : w.heap.size + 2 ≠ G := by omega
          have hsl : (zs.set k ⟨x, y⟩).length = zs.length := List.length_set ..
          clear ho OP hnu hG2
          go_wp2_with fail
          refine bodyPost_ret (v := .tuple #[.agg #[.int .i64 (C : Int), .int .i64 (R : Int), .slice (some ⟨G, 0, none⟩) zs.length cap2], .int .i64 0]) (by simp [results, Try.results42, go_sem, r0, r1, r2, hGn2]) rfl ⟨_, rfl, ?_, ?_⟩
          · refine Sp.Own.le (Sp.Own.mod O4.out (B' := 0) (C' := w.heap.size + 3) ?_ (Or.inr (by omega))) (by omega) (by simp)
            repeat (first | exact Mod.refl _ _ _ | refine Mod.setCell ?_ (by omega) (by omega) _)
          ·
            repeat (first | exact Below.refl _ _ | exact HB3.out | refine Below.setCell ?_ (by first | (simp; done) | omega | (simp; omega)) _ | refine Below.alloc ?_ (by first | (simp; done) | omega | (simp; omega)) _ | refine bel_drew ?_)

set_option maxRecDepth 100000 in
set_option maxHeartbeats 4000000 in
theorem specMove_any (c r : Int) (g cap : Nat) (zs : List V) (i j x y : Int) (w : World) (hb : zs.length ≤ 1048577) (h1 : Row w g zs) :
    Calls Try.prog 40 #[.agg #[.int .i64 c, .int .i64 r, .slice (some ⟨g, 0, none⟩) zs.length cap], .int .i64 i, .int .i64 j, .agg #[.int .i64 x, .int .i64 y]] w (MPost (moveR c r zs i j x y) w) := by
  have H1 := Lib.hid h1
  have hlg := h1.lt
  clear h1
  have OK := Lib.hid (fun b w hm h1 => l11Ok_any b c r g cap zs w hb hm h1)
  have OP := Lib.hid (fun w => l11Spot_any x y w)
  unfold moveR
  cases hm : meshB c r zs with
  | false =>
    rw [hm] at OK
    rw [if_neg (by simp)]
    clear hm
    go_enter Try.func40, Try.ntmps40
    go_wp2_with fail
    obtain ⟨W0, hW0⟩ : ∃ W, W = ((w.alloc (Obj.cells #[Value.int IntKind.i64 c, Value.int IntKind.i64 r, Value.slice (some ⟨g, 0, none⟩) zs.length cap] 29)).alloc (Obj.cells #[Value.int IntKind.i64 x, Value.int IntKind.i64 y] 39)).alloc (Obj.cells #[Value.int IntKind.i64 0, Value.int IntKind.i64 0, Value.slice none 0 0] 29) := ⟨_, rfl⟩
    rw [← hW0]
    have HB0 : Hid (Below w.heap.size w W0) := Lib.hid (by
      rw [hW0]
      repeat (first | exact Below.refl _ _ | refine Below.setCell ?_ (by first | (simp; done) | omega | (simp; omega)) _ | refine Below.alloc ?_ (by first | (simp; done) | omega | (simp; omega)) _ | refine bel_drew ?_)
      )
    have B0 : Hid (Bun w.heap.size c r (.slice (some ⟨g, 0, none⟩) zs.length cap) x y W0) := Lib.hid (by
      rw [hW0]
      refine ⟨((MAt.new w _ _ _ _).below ((Below.refl _ _).alloc (Nat.le_refl _) _)).below ((Below.refl _ _).alloc (Nat.le_refl _) _), ?_, ?_⟩
      · have e := (PAt.new (w.alloc (Obj.cells #[Value.int IntKind.i64 c, Value.int IntKind.i64 r, Value.slice (some ⟨g, 0, none⟩) zs.length cap] 29)) x y 39).below ((Below.refl _ _).alloc (Nat.le_refl _) (Obj.cells #[Value.int IntKind.i64 0, Value.int IntKind.i64 0, Value.slice none 0 0] 29))
        rw [World.size_alloc] at e
        exact e
      · have e := World.alloc_heap_new ((w.alloc (Obj.cells #[Value.int IntKind.i64 c, Value.int IntKind.i64 r, Value.slice (some ⟨g, 0, none⟩) zs.length cap] 29)).alloc (Obj.cells #[Value.int IntKind.i64 x, Value.int IntKind.i64 y] 39)) rz
        rw [World.size_alloc, World.size_alloc] at e
        exact e)
    clear hW0
    refine (OK.out w.heap.size _ B0.out.m (H1.out.below HB0.out)).mono ?_
    rintro e w1 ⟨rfl, hb1⟩
    have HB1 := Lib.hid (HB0.out.trans (hb1.mono HB0.out.size))
    have B1 := Lib.hid (B0.out.below hb1)
    have hs1 := hb1.size
    clear hb1
    clear B0
    obtain ⟨m0, m1, m2⟩ := B1.out.m
    obtain ⟨p0, p1⟩ := B1.out.p
    obtain ⟨⟨r0, r1, r2⟩, f0, f1, f2⟩ := rz_cells B1.out.z
    have bl := B1.out.lt
    go_wp2_with fail
    refine bodyPost_ret (v := .tuple #[.agg #[.int .i64 0, .int .i64 0, .slice none 0 0], .int .i64 1]) (by simp [results, Try.results40, go_sem, r0, r1, r2]) rfl ⟨_, rfl, Sp.Own.nil _ _ _, ?_⟩
    repeat (first | exact Below.refl _ _ | exact HB1.out | refine Below.setCell ?_ (by first | (simp; done) | omega | (simp; omega)) _ | refine Below.alloc ?_ (by first | (simp; done) | omega | (simp; omega)) _ | refine bel_drew ?_)
  | true =>
    rw [hm] at OK
    rw [if_pos rfl]
    obtain ⟨C, R, rfl, rfl, hC, hR, hlen, h81, hall⟩ := meshB_parts hm
    have HLEN := Lib.hid hlen
    clear hlen hall hm
    unfold inG
    have I1 := Lib.hid (fun w => l00In_any i 0 ((C : Int) - 1) w)
    have I2 := Lib.hid (fun w => l00In_any j 0 ((R : Int) - 1) w)
    cases e1 : inR 0 ((C : Int) - 1) [i] with
    | false =>
      rw [e1] at I1
      rw [Bool.false_and, if_neg (by simp)]
      clear e1
      go_enter Try.func40, Try.ntmps40
      go_wp2_with fail
      obtain ⟨W0, hW0⟩ : ∃ W, W = ((w.alloc (Obj.cells #[Value.int IntKind.i64 (C : Int), Value.int IntKind.i64 (R : Int), Value.slice (some ⟨g, 0, none⟩) zs.length cap] 29)).alloc (Obj.cells #[Value.int IntKind.i64 x, Value.int IntKind.i64 y] 39)).alloc (Obj.cells #[Value.int IntKind.i64 0, Value.int IntKind.i64 0, Value.slice none 0 0] 29) := ⟨_, rfl⟩
      rw [← hW0]
      have HB0 : Hid (Below w.heap.size w W0) := Lib.hid (by
        rw [hW0]
        repeat (first | exact Below.refl _ _ | refine Below.setCell ?_ (by first | (simp; done) | omega | (simp; omega)) _ | refine Below.alloc ?_ (by first | (simp; done) | omega | (simp; omega)) _ | refine bel_drew ?_)
        )
      have B0 : Hid (Bun w.heap.size (C : Int) (R : Int) (.slice (some ⟨g, 0, none⟩) zs.length cap) x y W0) := Lib.hid (by
        rw [hW0]
        refine ⟨((MAt.new w _ _ _ _).below ((Below.refl _ _).alloc (Nat.le_refl _) _)).below ((Below.refl _ _).alloc (Nat.le_refl _) _), ?_, ?_⟩
        · have e := (PAt.new (w.alloc (Obj.cells #[Value.int IntKind.i64 (C : Int), Value.int IntKind.i64 (R : Int), Value.slice (some ⟨g, 0, none⟩) zs.length cap] 29)) x y 39).below ((Below.refl _ _).alloc (Nat.le_refl _) (Obj.cells #[Value.int IntKind.i64 0, Value.int IntKind.i64 0, Value.slice none 0 0] 29))
          rw [World.size_alloc] at e
          exact e
        · have e := World.alloc_heap_new ((w.alloc (Obj.cells #[Value.int IntKind.i64 (C : Int), Value.int IntKind.i64 (R : Int), Value.slice (some ⟨g, 0, none⟩) zs.length cap] 29)).alloc (Obj.cells #[Value.int IntKind.i64 x, Value.int IntKind.i64 y] 39)) rz
          rw [World.size_alloc, World.size_alloc] at e
          exact e)
      clear hW0
      refine (OK.out w.heap.size _ B0.out.m (H1.out.below HB0.out)).mono ?_
      rintro e w1 ⟨rfl, hb1⟩
      have HB1 := Lib.hid (HB0.out.trans (hb1.mono HB0.out.size))
      have B1 := Lib.hid (B0.out.below hb1)
      have hs1 := hb1.size
      clear hb1
      clear B0
      obtain ⟨m0, m1, m2⟩ := B1.out.m
      obtain ⟨p0, p1⟩ := B1.out.p
      obtain ⟨⟨r0, r1, r2⟩, f0, f1, f2⟩ := rz_cells B1.out.z
      have bl := B1.out.lt
      go_wp2_with fail
      refine (I1.out _).mono ?_
      rintro e wi1 ⟨rfl, rfl⟩
      have HBa1 := Lib.hid HB1.out
      have Ba1 := Lib.hid B1.out
      go_wp2_with fail
      refine bodyPost_ret (v := .tuple #[.agg #[.int .i64 0, .int .i64 0, .slice none 0 0], .int .i64 2]) (by simp [results, Try.results40, go_sem, r0, r1, r2]) rfl ⟨_, rfl, Sp.Own.nil _ _ _, ?_⟩
      repeat (first | exact Below.refl _ _ | exact HBa1.out | refine Below.setCell ?_ (by first | (simp; done) | omega | (simp; omega)) _ | refine Below.alloc ?_ (by first | (simp; done) | omega | (simp; omega)) _ | refine bel_drew ?_)
    | true =>
      rw [e1] at I1
      rw [Bool.true_and]
      cases e2 : inR 0 ((R : Int) - 1) [j] with
      | false =>
        rw [e2] at I2
        rw [Bool.false_and, if_neg (by simp)]
        clear e1 e2
        go_enter Try.func40, Try.ntmps40
        go_wp2_with fail
        obtain ⟨W0, hW0⟩ : ∃ W, W = ((w.alloc (Obj.cells #[Value.int IntKind.i64 (C : Int), Value.int IntKind.i64 (R : Int), Value.slice (some ⟨g, 0, none⟩) zs.length cap] 29)).alloc (Obj.cells #[Value.int IntKind.i64 x, Value.int IntKind.i64 y] 39)).alloc (Obj.cells #[Value.int IntKind.i64 0, Value.int IntKind.i64 0, Value.slice none 0 0] 29) := ⟨_, rfl⟩
        rw [← hW0]
        have HB0 : Hid (Below w.heap.size w W0) := Lib.hid (by
          rw [hW0]
          repeat (first | exact Below.refl _ _ | refine Below.setCell ?_ (by first | (simp; done) | omega | (simp; omega)) _ | refine Below.alloc ?_ (by first | (simp; done) | omega | (simp; omega)) _ | refine bel_drew ?_)
          )
        have B0 : Hid (Bun w.heap.size (C : Int) (R : Int) (.slice (some ⟨g, 0, none⟩) zs.length cap) x y W0) := Lib.hid (by
          rw [hW0]
          refine ⟨((MAt.new w _ _ _ _).below ((Below.refl _ _).alloc (Nat.le_refl _) _)).below ((Below.refl _ _).alloc (Nat.le_refl _) _), ?_, ?_⟩
          · have e := (PAt.new (w.alloc (Obj.cells #[Value.int IntKind.i64 (C : Int), Value.int IntKind.i64 (R : Int), Value.slice (some ⟨g, 0, none⟩) zs.length cap] 29)) x y 39).below ((Below.refl _ _).alloc (Nat.le_refl _) (Obj.cells #[Value.int IntKind.i64 0, Value.int IntKind.i64 0, Value.slice none 0 0] 29))
            rw [World.size_alloc] at e
            exact e
          · have e := World.alloc_heap_new ((w.alloc (Obj.cells #[Value.int IntKind.i64 (C : Int), Value.int IntKind.i64 (R : Int), Value.slice (some ⟨g, 0, none⟩) zs.length cap] 29)).alloc (Obj.cells #[Value.int IntKind.i64 x, Value.int IntKind.i64 y] 39)) rz
            rw [World.size_alloc, World.size_alloc] at e
            exact e)
        clear hW0
        refine (OK.out w.heap.size _ B0.out.m (H1.out.below HB0.out)).mono ?_
        rintro e w1 ⟨rfl, hb1⟩
        have HB1 := Lib.hid (HB0.out.trans (hb1.mono HB0.out.size))
        have B1 := Lib.hid (B0.out.below hb1)
        have hs1 := hb1.size
        clear hb1
        clear B0
        obtain ⟨m0, m1, m2⟩ := B1.out.m
        obtain ⟨p0, p1⟩ := B1.out.p
        obtain ⟨⟨r0, r1, r2⟩, f0, f1, f2⟩ := rz_cells B1.out.z
        have bl := B1.out.lt
        go_wp2_with fail
        refine (I1.out _).mono ?_
        rintro e wi1 ⟨rfl, rfl⟩
        have HBa1 := Lib.hid HB1.out
        have Ba1 := Lib.hid B1.out
        go_wp2_with fail
        refine (I2.out _).mono ?_
        rintro e wi2 ⟨rfl, rfl⟩
        have HBa2 := Lib.hid HBa1.out
        have Ba2 := Lib.hid Ba1.out
        go_wp2_with fail
        refine bodyPost_ret (v := .tuple #[.agg #[.int .i64 0, .int .i64 0, .slice none 0 0], .int .i64 2]) (by simp [results, Try.results40, go_sem, r0, r1, r2]) rfl ⟨_, rfl, Sp.Own.nil _ _ _, ?_⟩
        repeat (first | exact Below.refl _ _ | exact HBa2.out | refine Below.setCell ?_ (by first | (simp; done) | omega | (simp; omega)) _ | refine Below.alloc ?_ (by first | (simp; done) | omega | (simp; omega)) _ | refine bel_drew ?_)
      | true =>
        rw [e2] at I2
        rw [Bool.true_and]
        cases e3 : inR (-2000000) 2000000 [x, y] with
        | false =>
          rw [e3] at OP
          rw [if_neg (by simp)]
          clear e1 e2 e3
          go_enter Try.func40, Try.ntmps40
          go_wp2_with fail
          obtain ⟨W0, hW0⟩ : ∃ W, W = ((w.alloc (Obj.cells #[Value.int IntKind.i64 (C : Int), Value.int IntKind.i64 (R : Int), Value.slice (some ⟨g, 0, none⟩) zs.length cap] 29)).alloc (Obj.cells #[Value.int IntKind.i64 x, Value.int IntKind.i64 y] 39)).alloc (Obj.cells #[Value.int IntKind.i64 0, Value.int IntKind.i64 0, Value.slice none 0 0] 29) := ⟨_, rfl⟩
          rw [← hW0]
          have HB0 : Hid (Below w.heap.size w W0) := Lib.hid (by
            rw [hW0]
            repeat (first | exact Below.refl _ _ | refine Below.setCell ?_ (by first | (simp; done) | omega | (simp; omega)) _ | refine Below.alloc ?_ (by first | (simp; done) | omega | (simp; omega)) _ | refine bel_drew ?_)
            )
          have B0 : Hid (Bun w.heap.size (C : Int) (R : Int) (.slice (some ⟨g, 0, none⟩) zs.length cap) x y W0) := Lib.hid (by
            rw [hW0]
            refine ⟨((MAt.new w _ _ _ _).below ((Below.refl _ _).alloc (Nat.le_refl _) _)).below ((Below.refl _ _).alloc (Nat.le_refl _) _), ?_, ?_⟩
            · have e := (PAt.new (w.alloc (Obj.cells #[Value.int IntKind.i64 (C : Int), Value.int IntKind.i64 (R : Int), Value.slice (some ⟨g, 0, none⟩) zs.length cap] 29)) x y 39).below ((Below.refl _ _).alloc (Nat.le_refl _) (Obj.cells #[Value.int IntKind.i64 0, Value.int IntKind.i64 0, Value.slice none 0 0] 29))
              rw [World.size_alloc] at e
              exact e
            · have e := World.alloc_heap_new ((w.alloc (Obj.cells #[Value.int IntKind.i64 (C : Int), Value.int IntKind.i64 (R : Int), Value.slice (some ⟨g, 0, none⟩) zs.length cap] 29)).alloc (Obj.cells #[Value.int IntKind.i64 x, Value.int IntKind.i64 y] 39)) rz
              rw [World.size_alloc, World.size_alloc] at e
              exact e)
          clear hW0
          refine (OK.out w.heap.size _ B0.out.m (H1.out.below HB0.out)).mono ?_
          rintro e w1 ⟨rfl, hb1⟩
          have HB1 := Lib.hid (HB0.out.trans (hb1.mono HB0.out.size))
          have B1 := Lib.hid (B0.out.below hb1)
          have hs1 := hb1.size
          clear hb1
          clear B0
          obtain ⟨m0, m1, m2⟩ := B1.out.m
          obtain ⟨p0, p1⟩ := B1.out.p
          obtain ⟨⟨r0, r1, r2⟩, f0, f1, f2⟩ := rz_cells B1.out.z
          have bl := B1.out.lt
          go_wp2_with fail
          refine (I1.out _).mono ?_
          rintro e wi1 ⟨rfl, rfl⟩
          have HBa1 := Lib.hid HB1.out
          have Ba1 := Lib.hid B1.out
          go_wp2_with fail
          refine (I2.out _).mono ?_
          rintro e wi2 ⟨rfl, rfl⟩
          have HBa2 := Lib.hid HBa1.out
          have Ba2 := Lib.hid Ba1.out
          go_wp2_with fail
          refine (OP.out _).mono ?_
          rintro e w2 ⟨rfl, hb2⟩
          have HB2 := Lib.hid (HBa2.out.trans (hb2.mono HBa2.out.size))
          have B2 := Lib.hid (Ba2.out.below hb2)
          have hs2 := hb2.size
          clear hb2
          clear m0 m1 m2 p0 p1 r0 r1 r2 f0 f1 f2 bl
          obtain ⟨m0, m1, m2⟩ := B2.out.m
          obtain ⟨p0, p1⟩ := B2.out.p
          obtain ⟨⟨r0, r1, r2⟩, f0, f1, f2⟩ := rz_cells B2.out.z
          have bl := B2.out.lt
          go_wp2_with fail
          refine bodyPost_ret (v := .tuple #[.agg #[.int .i64 0, .int .i64 0, .slice none 0 0], .int .i64 2]) (by simp [results, Try.results40, go_sem, r0, r1, r2]) rfl ⟨_, rfl, Sp.Own.nil _ _ _, ?_⟩
          repeat (first | exact Below.refl _ _ | exact HB2.out | refine Below.setCell ?_ (by first | (simp; done) | omega | (simp; omega)) _ | refine Below.alloc ?_ (by first | (simp; done) | omega | (simp; omega)) _ | refine bel_drew ?_)
        | true =>
          rw [e3] at OP
          rw [if_pos rfl]
          rw [inR_1] at e1 e2
          obtain ⟨jb, k, ek, hk⟩ := mov_place e1 e2 h81
          have hk1 : k < zs.length := by rw [HLEN.out]; exact hk
          have hl100 : zs.length ≤ 100 := by rw [HLEN.out]; omega
          rw [ek, Int.toNat_natCast]
          clear e3
          obtain ⟨i0, hi, hzz⟩ := Option.map_eq_some_iff.1 Sp.info_rec
          simp only [Prod.mk.injEq] at hzz
          obtain ⟨hz0, hz1, hz2⟩ := hzz
          go_enter Try.func40, Try.ntmps40
          go_wp2_with fail
          obtain ⟨W0, hW0⟩ : ∃ W, W = ((w.alloc (Obj.cells #[Value.int IntKind.i64 (C : Int), Value.int IntKind.i64 (R : Int), Value.slice (some ⟨g, 0, none⟩) zs.length cap] 29)).alloc (Obj.cells #[Value.int IntKind.i64 x, Value.int IntKind.i64 y] 39)).alloc (Obj.cells #[Value.int IntKind.i64 0, Value.int IntKind.i64 0, Value.slice none 0 0] 29) := ⟨_, rfl⟩
          rw [← hW0]
          have HB0 : Hid (Below w.heap.size w W0) := Lib.hid (by
            rw [hW0]
            repeat (first | exact Below.refl _ _ | refine Below.setCell ?_ (by first | (simp; done) | omega | (simp; omega)) _ | refine Below.alloc ?_ (by first | (simp; done) | omega | (simp; omega)) _ | refine bel_drew ?_)
            )
          have B0 : Hid (Bun w.heap.size (C : Int) (R : Int) (.slice (some ⟨g, 0, none⟩) zs.length cap) x y W0) := Lib.hid (by
            rw [hW0]
            refine ⟨((MAt.new w _ _ _ _).below ((Below.refl _ _).alloc (Nat.le_refl _) _)).below ((Below.refl _ _).alloc (Nat.le_refl _) _), ?_, ?_⟩
            · have e := (PAt.new (w.alloc (Obj.cells #[Value.int IntKind.i64 (C : Int), Value.int IntKind.i64 (R : Int), Value.slice (some ⟨g, 0, none⟩) zs.length cap] 29)) x y 39).below ((Below.refl _ _).alloc (Nat.le_refl _) (Obj.cells #[Value.int IntKind.i64 0, Value.int IntKind.i64 0, Value.slice none 0 0] 29))
              rw [World.size_alloc] at e
              exact e
            · have e := World.alloc_heap_new ((w.alloc (Obj.cells #[Value.int IntKind.i64 (C : Int), Value.int IntKind.i64 (R : Int), Value.slice (some ⟨g, 0, none⟩) zs.length cap] 29)).alloc (Obj.cells #[Value.int IntKind.i64 x, Value.int IntKind.i64 y] 39)) rz
              rw [World.size_alloc, World.size_alloc] at e
              exact e)
          clear hW0
          refine (OK.out w.heap.size _ B0.out.m (H1.out.below HB0.out)).mono ?_
          rintro e w1 ⟨rfl, hb1⟩
          have HB1 := Lib.hid (HB0.out.trans (hb1.mono HB0.out.size))
          have B1 := Lib.hid (B0.out.below hb1)
          have hs1 := hb1.size
          clear hb1
          clear B0
          obtain ⟨m0, m1, m2⟩ := B1.out.m
          obtain ⟨p0, p1⟩ := B1.out.p
          obtain ⟨⟨r0, r1, r2⟩, f0, f1, f2⟩ := rz_cells B1.out.z
          have bl := B1.out.lt
          go_wp2_with fail
          refine (I1.out _).mono ?_
          rintro e wi1 ⟨rfl, rfl⟩
          have HBa1 := Lib.hid HB1.out
          have Ba1 := Lib.hid B1.out
          go_wp2_with fail
          refine (I2.out _).mono ?_
          rintro e wi2 ⟨rfl, rfl⟩
          have HBa2 := Lib.hid HBa1.out
          have Ba2 := Lib.hid Ba1.out
          go_wp2_with fail
          refine (OP.out _).mono ?_
          rintro e w2 ⟨rfl, hb2⟩
          have HB2 := Lib.hid (HBa2.out.trans (hb2.mono HBa2.out.size))
          have B2 := Lib.hid (Ba2.out.below hb2)
          have hs2 := hb2.size
          clear hb2
          clear m0 m1 m2 p0 p1 r0 r1 r2 f0 f1 f2 bl
          obtain ⟨m0, m1, m2⟩ := B2.out.m
          obtain ⟨p0, p1⟩ := B2.out.p
          obtain ⟨⟨r0, r1, r2⟩, f0, f1, f2⟩ := rz_cells B2.out.z
          have bl := B2.out.lt
          go_wp2_with fail
          have FL : (Sp.flat zs).length = zs.length * 2 := Sp.flat_len zs
          have F1 := Sp.flat_one zs
          have SA := Lib.hid ((H1.out.below (HB2.out.trans ((twoB w2 rz ez).mono HB2.out.size))).src)
          have SB := Lib.hid ((H1.out.below (HB2.out.trans ((twoB w2 ez rz).mono HB2.out.size))).src)
          have SC := Lib.hid ((H1.out.below (HB2.out.trans ((oneB w2 ez).mono HB2.out.size))).src)
          have OA := Lib.hid (ownedA w2)
          have OB := Lib.hid (ownedB w2)
          have OC := Lib.hid (ownedC w2)
          have ZA : Hid (((w2.drew.alloc rz).alloc ez).heap[w2.heap.size]? = some rz) := Lib.hid (by
            rw [Below.heap_alloc _ _ _ (by simp)]
            exact World.alloc_heap_new w2.drew _)
          have ZB : Hid (((w2.drew.alloc ez).alloc rz).heap[w2.heap.size + 1]? = some rz) := Lib.hid (by
            have e := World.alloc_heap_new (w2.drew.alloc ez) rz
            rw [World.size_alloc] at e
            exact e)
          have hpos : 0 < zs.length := by omega
          have hnl : 0 + zs.length ≤ maxLen := by unfold maxLen; omega
          have hny : (0 + zs.length) * 16 ≤ 140737488355328 := by omega
          have bl2 := B2.out.lt
          have bl3 : w.heap.size < w2.heap.size := by omega
          go_cut [10] from 34 (fun s10 wx => ∃ B G cap2 : Nat, s10 = .pointer (some ⟨B, 0, none⟩) ∧ w2.heap.size ≤ B ∧ w2.heap.size ≤ G ∧ G ≠ B ∧ B < wx.heap.size ∧ Hid (wx.heap[B]? = some (.cells #[.int .i64 (C : Int), .int .i64 (R : Int), .slice (some ⟨G, 0, none⟩) zs.length cap2] 29 (0, 0))) ∧ G < wx.heap.size ∧ Hid (Sp.Own wx G (G + 1) (.slice (some ⟨G, 0, none⟩) zs.length cap2) zs) ∧ Hid (Below w2.heap.size w2 wx))
          case first =>
            have KM : Hid (w2.cell? ⟨w.heap.size, 0, none⟩ = some (.int .i64 (C : Int)) ∧ w2.cell? ⟨w.heap.size, 1, none⟩ = some (.int .i64 (R : Int)) ∧ w2.cell? ⟨w.heap.size, 2, none⟩ = some (.slice (some ⟨g, 0, none⟩) zs.length cap)) := Lib.hid ⟨m0, m1, m2⟩
            go_region_held3 (fun W => W.cell? ⟨w.heap.size, 0, none⟩ = some (.int .i64 (C : Int)) ∧ W.cell? ⟨w.heap.size, 1, none⟩ = some (.int .i64 (R : Int)) ∧ W.cell? ⟨w.heap.size, 2, none⟩ = some (.slice (some ⟨g, 0, none⟩) zs.length cap) ∧ Below w2.heap.size w2 W) (first | (exact kp3 KM.out (drewG w2)) | (exact kp3 KM.out (oneB w2 _)) | (exact kp3 KM.out (twoB w2 _ _)) | (exact kp3 KM.out b4) | (exact kp3 KM.out (b4.alloc b4.size _)) | (exact kp3 KM.out (set3B b4 (Nat.le_refl _) _ _ _)) | (exact kp3 KM.out (set3B b4 (Nat.le_succ _) _ _ _)) | (exact kp3 KM.out (set3B (b4.alloc b4.size _) b4.size _ _ _)) | go_keep) ((first
              | (refine step_append_lies _ (by rfl) _ _ _ (by rfl) w2.heap.size 39 i0 (.agg #[.int .i64 0, .int .i64 0]) 2 16 Try.underlying27 hi hz0 hz1 hz2 rfl (by decide) _ 0 [] (by rfl) OA.out ⟨g, 0, none⟩ zs.length cap (Sp.flat zs) (by rfl) FL SA.out F1 hpos hnl hny (twoB w2 rz ez).size _ rfl ?_; intro g4 c4 w4 hown4 hgrow4 hl4 _; have hz4 := grownAt hgrow4 ZA.out (show w2.heap.size ≠ w2.heap.size + 1 by omega); obtain ⟨⟨s0, s1, s2⟩, t0, t1, t2⟩ := rz_cells hz4; obtain ⟨o4, b4⟩ := copied (twoB w2 rz ez) (show w2.heap.size ≤ w2.heap.size + 1 by omega) hown4 hgrow4)
              | (refine step_append_lies _ (by rfl) _ _ _ (by rfl) w2.heap.size 39 i0 (.agg #[.int .i64 0, .int .i64 0]) 2 16 Try.underlying27 hi hz0 hz1 hz2 rfl (by decide) _ 0 [] (by rfl) OB.out ⟨g, 0, none⟩ zs.length cap (Sp.flat zs) (by rfl) FL SB.out F1 hpos hnl hny (twoB w2 ez rz).size _ rfl ?_; intro g4 c4 w4 hown4 hgrow4 hl4 _; have hz4 := grownAt hgrow4 ZB.out (show w2.heap.size + 1 ≠ w2.heap.size by omega); obtain ⟨⟨s0, s1, s2⟩, t0, t1, t2⟩ := rz_cells hz4; obtain ⟨o4, b4⟩ := copied (twoB w2 ez rz) (Nat.le_refl _) hown4 hgrow4)
              | (refine step_append_lies _ (by rfl) _ _ _ (by rfl) w2.heap.size 39 i0 (.agg #[.int .i64 0, .int .i64 0]) 2 16 Try.underlying27 hi hz0 hz1 hz2 rfl (by decide) _ 0 [] (by rfl) OC.out ⟨g, 0, none⟩ zs.length cap (Sp.flat zs) (by rfl) FL SC.out F1 hpos hnl hny (oneB w2 ez).size _ rfl ?_; intro g4 c4 w4 hown4 hgrow4 hl4 _; obtain ⟨o4, b4⟩ := copied (oneB w2 ez) (Nat.le_refl _) hown4 hgrow4)))
            all_goals
              rename_i held
              clear held
              obtain ⟨hg1, hg2, hg3, _⟩ := o4.bd
              have o5 := Lib.hid (own_only o4)
              have hb4 := Lib.hid b4
              have HL4 := Lib.hid hl4
              try (have HZ4 := Lib.hid hz4)
              clear hown4 hgrow4 o4 b4 hl4
              go_wp2_with fail
              go_meet
            case rel => exact ⟨_, g4, c4, rfl, hb4.out.size, hg1, by omega, by simp, Lib.hid (World.alloc_heap_new _ _), by simp; omega, Lib.hid (own_alloc o5.out _), Lib.hid (hb4.out.alloc hb4.out.size _)⟩
            case rel =>
              have hne : g4 ≠ w2.heap.size + 1 := by
                rcases HL4.out with e | e
                · have : w2.heap.size = g4 := by simpa [Value.ownBlock] using e
                  omega
                · simp at e; omega
              exact ⟨_, g4, c4, rfl, Nat.le_succ _, hg1, hne, set3_size (Array.getElem?_eq_some_iff.1 HZ4.out).1 _ _ _, Lib.hid (set3_heap HZ4.out _ _ _), set3_size hg3 _ _ _, Lib.hid (set3_own o5.out hne _ _ _), Lib.hid (set3B hb4.out (Nat.le_succ _) _ _ _)⟩
            case rel =>
              have hne : g4 ≠ w2.heap.size := by
                rcases HL4.out with e | e
                · have : w2.heap.size + 1 = g4 := by simpa [Value.ownBlock] using e
                  omega
                · simp at e; omega
              exact ⟨_, g4, c4, rfl, Nat.le_refl _, hg1, hne, set3_size (Array.getElem?_eq_some_iff.1 HZ4.out).1 _ _ _, Lib.hid (set3_heap HZ4.out _ _ _), set3_size hg3 _ _ _, Lib.hid (set3_own o5.out hne _ _ _), Lib.hid (set3B hb4.out (Nat.le_refl _) _ _ _)⟩
          case rest =>
            obtain ⟨B, G, cap2, rfl, hB1, hG1, hne, hBl, HZ, hGl, HO, HBX⟩ := hcut
            have HB3 := Lib.hid (HB2.out.trans (HBX.out.mono HB2.out.size))
            have B3 := Lib.hid (B2.out.below HBX.out)
            clear SA SB SC OA OB OC ZA ZB FL F1 hi hz0 hz1 hz2 hnl hny
            clear m0 m1 m2 p0 p1 r0 r1 r2 f0 f1 f2 bl
            obtain ⟨m0, m1, m2⟩ := B3.out.m
            obtain ⟨p0, p1⟩ := B3.out.p
            obtain ⟨⟨r0, r1, r2⟩, f0, f1, f2⟩ := rz_cells B3.out.z
            have bl := B3.out.lt
            have hz3 := HZ.out
            have q0 : wc.cell? ⟨B, 0, none⟩ = some (.int .i64 (C : Int)) := by simp [World.cell?, hz3]
            have q1 : wc.cell? ⟨B, 1, none⟩ = some (.int .i64 (R : Int)) := by simp [World.cell?, hz3]
            have q2 : wc.cell? ⟨B, 2, none⟩ = some (.slice (some ⟨G, 0, none⟩) zs.length cap2) := by simp [World.cell?, hz3]
            clear hz3
            obtain ⟨c0, c1⟩ := HO.out.at k hk1
            have fr0 := HO.out.free (k * 2)
            have fr1 := HO.out.free (k * 2 + 1)
            have O4 := Lib.hid (HO.out.put k hk1 ⟨x, y⟩)
            have hk2 : (k : Int) < (zs.length : Int) := by omega
            have hGn0 : w.heap.size ≠ G := by omega
            have hGn1 : w.heap.size + 1 ≠ G := by omega
            have hGn2 : w.heap.size + 2 ≠ G := by omega
            have hGn3 : B ≠ G := by omega
            have hsl : (zs.set k ⟨x, y⟩).length = zs.length := List.length_set ..
            clear HO HZ
            go_wp2_with fail
            refine bodyPost_ret (v := .tuple #[.agg #[.int .i64 (C : Int), .int .i64 (R : Int), .slice (some ⟨G, 0, none⟩) zs.length cap2], .int .i64 0]) (by simp [results, Try.results40, go_sem, r0, r1, r2, hGn2]) rfl ⟨_, rfl, ?_, ?_⟩
            · refine Sp.Own.le (Sp.Own.mod O4.out (B' := 0) (C' := w.heap.size + 3) ?_ (Or.inr (by omega))) (by omega) (by simp; omega)
              repeat (first | exact Mod.refl _ _ _ | refine Mod.setCell ?_ (by omega) (by omega) _)
            ·
              repeat (first | exact Below.refl _ _ | exact HB3.out | refine Below.setCell ?_ (by first | (simp; done) | omega | (simp; omega)) _ | refine Below.alloc ?_ (by first | (simp; done) | omega | (simp; omega)) _ | refine bel_drew ?_)
end Go.Proofs.Ytbbkohpmncfilaa.Me
