/-
  PlainMesh (packages spec and impl).
-/
import Derived.Test.YtbbkohpmncfilaaPla
import Derived.Deep.RegionHeld3
namespace Go.Proofs.Ytbbkohpmncfilaa.Me
open Go.RowKit
open Sp (V Row)
set_option linter.unusedVariables false

/-- A mesh and a code. -/
abbrev MR := (Int × Int × List V) × Int
def mErr (k : Int) : MR := ((0, 0, []), k)
/-- The call returned a mesh of its own, and a code. -/
def MPost (R : MR) (w : World) (e : Ending) (w' : World) : Prop :=
  ∃ u, e = .returned (.tuple #[.agg #[.int .i64 R.1.1, .int .i64 R.1.2.1, u], .int .i64 R.2]) ∧ Sp.Own w' w.heap.size w'.heap.size u R.1.2.2 ∧ Below w.heap.size w w'
/-- What PlainMesh answers. -/
def plainR (c r : Int) : MR := if sizeB c r = true then ((c, r, plainL c.toNat r.toNat), 0) else mErr 2
set_option maxRecDepth 100000 in
set_option maxHeartbeats 2000000 in
theorem specPlain_any (c r : Int) (w : World) : Calls Try.prog 22 #[.int .i64 c, .int .i64 r] w (MPost (plainR c r) w) := by
  have I1 := Lib.hid (fun w => l00In_any c 2 9 w)
  have I2 := Lib.hid (fun w => l00In_any r 2 9 w)
  have es : sizeB c r = (inR 2 9 [c] && inR 2 9 [r]) := by unfold sizeB; exact inR_2 _ _ _ _
  unfold plainR
  cases hc : inR 2 9 [c] with
  | false =>
    rw [hc] at I1 es
    rw [Bool.false_and] at es
    rw [es, if_neg (by simp)]
    clear hc es I2
    go_enter Try.func22, Try.ntmps22
    go_wp2_with fail
    refine (I1.out _).mono ?_
    rintro e w' ⟨rfl, rfl⟩
    go_wp2_with fail
    refine bodyPost_ret (v := .tuple #[.agg #[.int .i64 0, .int .i64 0, .slice none 0 0], .int .i64 2]) (by simp [results, Try.results22, go_sem]) rfl ⟨_, rfl, Sp.Own.nil _ _ _, ?_⟩
    repeat (first | exact Below.refl _ _ | refine Below.setCell ?_ (by first | (simp; done) | omega | (simp; omega)) _ | refine Below.alloc ?_ (by first | (simp; done) | omega | (simp; omega)) _ | refine bel_drew ?_)
  | true =>
    rw [hc, Bool.true_and] at es
    rw [hc] at I1
    cases hr : inR 2 9 [r] with
    | false =>
      rw [hr] at es I2
      rw [es, if_neg (by simp)]
      clear hc hr es
      go_enter Try.func22, Try.ntmps22
      go_wp2_with fail
      refine (I1.out _).mono ?_
      rintro e w' ⟨rfl, rfl⟩
      go_wp2_with fail
      refine (I2.out _).mono ?_
      rintro e w' ⟨rfl, rfl⟩
      go_wp2_with fail
      refine bodyPost_ret (v := .tuple #[.agg #[.int .i64 0, .int .i64 0, .slice none 0 0], .int .i64 2]) (by simp [results, Try.results22, go_sem]) rfl ⟨_, rfl, Sp.Own.nil _ _ _, ?_⟩
      repeat (first | exact Below.refl _ _ | refine Below.setCell ?_ (by first | (simp; done) | omega | (simp; omega)) _ | refine Below.alloc ?_ (by first | (simp; done) | omega | (simp; omega)) _ | refine bel_drew ?_)
    | true =>
      rw [hr] at es I2
      rw [es, if_pos rfl]
      have hcb := (inR_1 _ _ _).1 hc
      have hrb := (inR_1 _ _ _).1 hr
      clear hc hr es
      obtain ⟨C, rfl⟩ : ∃ C : Nat, c = (C : Int) := ⟨c.toNat, by omega⟩
      obtain ⟨R, rfl⟩ : ∃ R : Nat, r = (R : Int) := ⟨r.toNat, by omega⟩
      simp only [Int.toNat_natCast]
      have P := Lib.hid (fun w => l11Plain_any C R (by omega) (by omega) w)
      generalize plainL C R = L at *
      go_enter Try.func22, Try.ntmps22
      go_wp2_with fail
      refine (I1.out _).mono ?_
      rintro e w' ⟨rfl, rfl⟩
      go_wp2_with fail
      refine (I2.out _).mono ?_
      rintro e w' ⟨rfl, rfl⟩
      go_wp2_with fail
      refine (P.out _).mono ?_
      rintro e w1 ⟨u, rfl, ho, hb⟩
      have hs1 := hb.size
      try simp at hs1
      obtain ⟨a, cap, rfl⟩ := ho.len
      have O1 := Lib.hid ho
      clear ho
      have hsw1 := hb.size
      try simp at hsw1
      obtain ⟨hcw1, hfw1⟩ := bcell hb
      have HBw1 : Hid (Below w.heap.size w w1) := by
        apply Lib.hid
        refine Below.trans ?_ (hb.mono ?_)
        · repeat (first | exact Below.refl _ _ | refine Below.setCell ?_ (by first | (simp; done) | omega | (simp; omega)) _ | refine Below.alloc ?_ (by first | (simp; done) | omega | (simp; omega)) _)
        · first | (simp; done) | omega | (simp; omega)
      have hzw1 : w.heap.size < w1.heap.size := by have := hb.size; (try simp at this); omega
      clear hb
      have r0 : w1.cell? ⟨w.heap.size, 0, none⟩ = some (.int .i64 0) := by rw [hcw1 _ _ (by simp)]; simp
      have r1 : w1.cell? ⟨w.heap.size, 1, none⟩ = some (.int .i64 0) := by rw [hcw1 _ _ (by simp)]; simp
      have r2 : w1.cell? ⟨w.heap.size, 2, none⟩ = some (.slice none 0 0) := by rw [hcw1 _ _ (by simp)]; simp
      go_wp2_with fail
      refine bodyPost_ret (v := .tuple #[.agg #[.int .i64 (C : Int), .int .i64 (R : Int), .slice a L.length cap], .int .i64 0]) (by simp [results, Try.results22, go_sem, r0, r1, r2]) rfl ⟨_, rfl, ?_, ?_⟩
      · refine Sp.Own.le (Sp.Own.mod O1.out (B' := 0) (C' := w.heap.size + 1) ?_ (Or.inr (by simp))) (by simp) (by simp)
        repeat (first | exact Mod.refl _ _ _ | refine Mod.setCell ?_ (by omega) (by omega) _)
      ·
        repeat (first | exact Below.refl _ _ | exact HBw1.out | refine Below.setCell ?_ (by first | (simp; done) | omega | (simp; omega)) _ | refine Below.alloc ?_ (by first | (simp; done) | omega | (simp; omega)) _ | refine bel_drew ?_)

theorem set2_keep {w W : World} {b0 b1 g : Nat} {v0 v1 p q : Value} (h : W.cell? ⟨b0, 0, none⟩ = some v0 ∧ W.cell? ⟨b1, 0, none⟩ = some v1 ∧ Below w.heap.size w W) (hg : w.heap.size ≤ g) (n0 : b0 ≠ g) (n1 : b1 ≠ g) :
    ((W.setCell ⟨g, 0, none⟩ p).setCell ⟨g, 1, none⟩ q).cell? ⟨b0, 0, none⟩ = some v0 ∧ ((W.setCell ⟨g, 0, none⟩ p).setCell ⟨g, 1, none⟩ q).cell? ⟨b1, 0, none⟩ = some v1 ∧ Below w.heap.size w ((W.setCell ⟨g, 0, none⟩ p).setCell ⟨g, 1, none⟩ q) := by
  obtain ⟨h0, h1, hb⟩ := h
  exact ⟨by rw [World.cell?_setCell_other (h := by simp [n0]), World.cell?_setCell_other (h := by simp [n0])]; exact h0, by rw [World.cell?_setCell_other (h := by simp [n1]), World.cell?_setCell_other (h := by simp [n1])]; exact h1, (hb.setCell (p := ⟨g, 0, none⟩) hg _).setCell (p := ⟨g, 1, none⟩) hg _⟩
set_option maxRecDepth 100000 in
set_option maxHeartbeats 2000000 in
theorem plainPt_any (C R : Nat) (hC : 2 ≤ C ∧ C ≤ 9) (hR : 2 ≤ R ∧ R ≤ 9) (x y : Nat) (hx : x < C) (hy : y < R) (b0 b1 : Nat) (w : World) (h0 : w.cell? ⟨b0, 0, none⟩ = some (.int .i64 (C : Int))) (h1 : w.cell? ⟨b1, 0, none⟩ = some (.int .i64 (R : Int))) :
    Calls Try.prog 66 #[.int .i64 (x : Int), .int .i64 (y : Int), .pointer (some ⟨b0, 0, none⟩), .pointer (some ⟨b1, 0, none⟩)] w fun e w' => e = .returned (.agg #[.int .i64 (plainPt C R x y).1, .int .i64 (plainPt C R x y).2]) ∧ Below w.heap.size w w' := by
  have P1 := Lib.hid (fun w => plainCoord_any (x : Int) (C : Int) (by omega) (by omega) (by omega) (by omega) w)
  have P2 := Lib.hid (fun w => plainCoord_any (y : Int) (R : Int) (by omega) (by omega) (by omega) (by omega) w)
  unfold plainPt
  generalize plC (x : Int) (C : Int) = p at *
  generalize plC (y : Int) (R : Int) = q at *
  have hl0 : b0 < w.heap.size := World.block_lt_of_cell? w ⟨b0, 0, none⟩ h0
  have hl1 : b1 < w.heap.size := World.block_lt_of_cell? w ⟨b1, 0, none⟩ h1
  have hn0 : b0 ≠ w.heap.size := by omega
  have hn1 : b1 ≠ w.heap.size := by omega
  go_enter Try.func66, Try.ntmps66
  go_wp2_with fail
  obtain ⟨W1, hW1⟩ : ∃ W, W = w.alloc (Obj.cells #[Value.int IntKind.i64 0, Value.int IntKind.i64 0] 39) := ⟨_, rfl⟩
  rw [← hW1]
  have hS1 : W1.heap.size = w.heap.size + 1 := by rw [hW1]; simp
  have Z : Hid (W1.heap[w.heap.size]? = some (.cells #[.int .i64 0, .int .i64 0] 39 (0, 0))) := Lib.hid (by rw [hW1]; exact World.alloc_heap_new w _)
  have K : Hid (W1.cell? ⟨b0, 0, none⟩ = some (.int .i64 (C : Int)) ∧ W1.cell? ⟨b1, 0, none⟩ = some (.int .i64 (R : Int)) ∧ Below w.heap.size w W1) := Lib.hid (by
    rw [hW1]
    exact ⟨by rw [World.cell?_alloc_lt _ _ _ hl0]; exact h0, by rw [World.cell?_alloc_lt _ _ _ hl1]; exact h1, (Below.refl _ _).alloc (Nat.le_refl _) _⟩)
  clear hW1 h0 h1
  go_region_held3 (fun W => W.cell? ⟨b0, 0, none⟩ = some (.int .i64 (C : Int)) ∧ W.cell? ⟨b1, 0, none⟩ = some (.int .i64 (R : Int)) ∧ Below w.heap.size w W) (first | (exact keepW2 K.out (drewG W1)) | (exact keepW2 K.out y2) | (exact keepW2 K.out y1) | (exact set2_keep (keepW2 K.out y2) (Nat.le_refl _) hn0 hn1) | go_keep) ((first
    | (go_at_call 67; (first
      | ((with_reducible refine (P1.out _).mono ?_); rintro e x1 ⟨rfl, hx1⟩; have y1 := undrewG hx1)
      | ((with_reducible refine (P2.out _).mono ?_); rintro e x2 ⟨rfl, hx2⟩; have y2 := y1.trans (hx2.mono y1.size); have hz := (y2.block _ (show w.heap.size < W1.heap.size by omega)).trans Z.out; have r0 : x2.cell? ⟨w.heap.size, 0, none⟩ = some (.int .i64 0) := (by simp [World.cell?, hz]); have r1 : x2.cell? ⟨w.heap.size, 1, none⟩ = some (.int .i64 0) := (by simp [World.cell?, hz]); have f0 : x2.frozen? ⟨w.heap.size, 0, none⟩ = false := (by simp [World.frozen?, hz]); have f1 : x2.frozen? ⟨w.heap.size, 1, none⟩ = false := (by simp [World.frozen?, hz]))))))
  rename_i held
  have HB := Lib.hid held.2.2
  clear held K hz Z hx1 hx2 y1 y2
  go_wp2_with fail
  refine bodyPost_ret (v := .agg #[.int .i64 p, .int .i64 q]) (by simp [results, Try.results66, go_sem, r0, r1]) rfl ⟨rfl, HB.out⟩
theorem plainL_map (C R : Nat) : (gridL C (R * C)).map (ptV (plainPt (C : Int) (R : Int))) = plainL C R := rfl
set_option maxRecDepth 100000 in
set_option maxHeartbeats 2000000 in
theorem implPlain_any (c r : Int) (w : World) : Calls Try.prog 23 #[.int .i64 c, .int .i64 r] w (MPost (plainR c r) w) := by
  have S := Lib.hid (fun w => isMeshSize_any c r w)
  unfold plainR
  cases hs : sizeB c r with
  | false =>
    rw [hs] at S
    rw [if_neg (by simp)]
    clear hs
    go_enter Try.func23, Try.ntmps23
    go_wp2_with fail
    refine (S.out _).mono ?_
    rintro e w1 ⟨rfl, hb⟩
    have hsw1 := hb.size
    try simp at hsw1
    obtain ⟨hcw1, hfw1⟩ := bcell hb
    have HBw1 : Hid (Below w.heap.size w w1) := by
      apply Lib.hid
      refine Below.trans ?_ (hb.mono ?_)
      · repeat (first | exact Below.refl _ _ | refine Below.setCell ?_ (by first | (simp; done) | omega | (simp; omega)) _ | refine Below.alloc ?_ (by first | (simp; done) | omega | (simp; omega)) _)
      · first | (simp; done) | omega | (simp; omega)
    have hzw1 : w.heap.size + 2 < w1.heap.size := by have := hb.size; (try simp at this); omega
    have hyw1 : w.heap.size + 1 < w1.heap.size := by have := hb.size; (try simp at this); omega
    have hxw1 : w.heap.size < w1.heap.size := by have := hb.size; (try simp at this); omega
    clear hb
    go_wp2_with fail
    have r0 : w1.cell? ⟨w.heap.size + 2, 0, none⟩ = some (.int .i64 0) := by rw [hcw1 _ _ (by first | (simp; done) | (simp; omega)), World.cell?_alloc_at _ _ _ _ (by simp)]; rfl
    have r1 : w1.cell? ⟨w.heap.size + 2, 1, none⟩ = some (.int .i64 0) := by rw [hcw1 _ _ (by first | (simp; done) | (simp; omega)), World.cell?_alloc_at _ _ _ _ (by simp)]; rfl
    have r2 : w1.cell? ⟨w.heap.size + 2, 2, none⟩ = some (.slice none 0 0) := by rw [hcw1 _ _ (by first | (simp; done) | (simp; omega)), World.cell?_alloc_at _ _ _ _ (by simp)]; rfl
    refine bodyPost_ret (v := .tuple #[.agg #[.int .i64 0, .int .i64 0, .slice none 0 0], .int .i64 2]) (by simp [results, Try.results23, go_sem, r0, r1, r2]) rfl ⟨_, rfl, Sp.Own.nil _ _ _, ?_⟩
    repeat (first | exact Below.refl _ _ | exact HBw1.out | refine Below.setCell ?_ (by first | (simp; done) | omega | (simp; omega)) _ | refine Below.alloc ?_ (by first | (simp; done) | omega | (simp; omega)) _ | refine bel_drew ?_)
  | true =>
    rw [hs] at S
    rw [if_pos rfl]
    obtain ⟨hcb, hrb⟩ := sizeB_bd hs
    clear hs
    obtain ⟨C, rfl⟩ : ∃ C : Nat, c = (C : Int) := ⟨c.toNat, by omega⟩
    obtain ⟨R, rfl⟩ : ∃ R : Nat, r = (R : Int) := ⟨r.toNat, by omega⟩
    simp only [Int.toNat_natCast]
    have eg : ∀ args w, (callFunc 66 args).run Try.prog w = .ok (.enter 66 args) w := enters_of Try.func66 (by kernel_rfl) rfl
    have MO := Lib.hid (fun (W : World) (h0 : W.cell? ⟨w.heap.size, 0, none⟩ = some (.int .i64 (C : Int))) (h1 : W.cell? ⟨w.heap.size + 1, 0, none⟩ = some (.int .i64 (R : Int))) => meshOf_any 66 #[.pointer (some ⟨w.heap.size, 0, none⟩), .pointer (some ⟨w.heap.size + 1, 0, none⟩)] eg (plainPt (C : Int) (R : Int)) C R (by omega) (by omega) W
      (fun W' x y hx hy hB => plainPt_any C R (by omega) (by omega) x y hx hy _ _ W' ((hB.cell (p := ⟨w.heap.size, 0, none⟩) (World.block_lt_of_cell? W ⟨w.heap.size, 0, none⟩ h0)).trans h0) ((hB.cell (p := ⟨w.heap.size + 1, 0, none⟩) (World.block_lt_of_cell? W ⟨w.heap.size + 1, 0, none⟩ h1)).trans h1)))
    rw [plainL_map C R] at MO
    generalize plainL C R = L at *
    clear eg
    go_enter Try.func23, Try.ntmps23
    go_wp2_with fail
    refine (S.out _).mono ?_
    rintro e w1 ⟨rfl, hb⟩
    have hsw1 := hb.size
    try simp at hsw1
    obtain ⟨hcw1, hfw1⟩ := bcell hb
    have HBw1 : Hid (Below w.heap.size w w1) := by
      apply Lib.hid
      refine Below.trans ?_ (hb.mono ?_)
      · repeat (first | exact Below.refl _ _ | refine Below.setCell ?_ (by first | (simp; done) | omega | (simp; omega)) _ | refine Below.alloc ?_ (by first | (simp; done) | omega | (simp; omega)) _)
      · first | (simp; done) | omega | (simp; omega)
    have hzw1 : w.heap.size + 2 < w1.heap.size := by have := hb.size; (try simp at this); omega
    have hyw1 : w.heap.size + 1 < w1.heap.size := by have := hb.size; (try simp at this); omega
    have hxw1 : w.heap.size < w1.heap.size := by have := hb.size; (try simp at this); omega
    clear hb
    go_wp2_with fail
    have q0 : w1.cell? ⟨w.heap.size, 0, none⟩ = some (.int .i64 (C : Int)) := by rw [hcw1 _ _ (by first | (simp; done) | (simp; omega)), World.cell?_alloc_lt _ _ _ (by first | (simp; done) | (simp; omega)), World.cell?_alloc_lt _ _ _ (by first | (simp; done) | (simp; omega)), World.cell?_alloc_at _ _ _ _ (by simp)]; rfl
    have q1 : w1.cell? ⟨w.heap.size + 1, 0, none⟩ = some (.int .i64 (R : Int)) := by rw [hcw1 _ _ (by first | (simp; done) | (simp; omega)), World.cell?_alloc_lt _ _ _ (by first | (simp; done) | (simp; omega)), World.cell?_alloc_at _ _ _ _ (by simp)]; rfl
    refine (MO.out _ q0 q1).mono ?_
    rintro e w2 ⟨u, rfl, ho, hnu, hb⟩
    have hs2 := hb.size
    obtain ⟨a, cap, rfl⟩ := ho.len
    have O1 := Lib.hid ho
    clear ho hnu
    have r0 : w2.cell? ⟨w.heap.size + 2, 0, none⟩ = some (.int .i64 0) := (hb.cell (p := ⟨w.heap.size + 2, 0, none⟩) (by omega)).trans (by rw [hcw1 _ _ (by first | (simp; done) | (simp; omega)), World.cell?_alloc_at _ _ _ _ (by simp)]; rfl)
    have r1 : w2.cell? ⟨w.heap.size + 2, 1, none⟩ = some (.int .i64 0) := (hb.cell (p := ⟨w.heap.size + 2, 1, none⟩) (by omega)).trans (by rw [hcw1 _ _ (by first | (simp; done) | (simp; omega)), World.cell?_alloc_at _ _ _ _ (by simp)]; rfl)
    have r2 : w2.cell? ⟨w.heap.size + 2, 2, none⟩ = some (.slice none 0 0) := (hb.cell (p := ⟨w.heap.size + 2, 2, none⟩) (by omega)).trans (by rw [hcw1 _ _ (by first | (simp; done) | (simp; omega)), World.cell?_alloc_at _ _ _ _ (by simp)]; rfl)
    have FZ : ∀ {i : Nat}, (((w.alloc (Obj.cells #[Value.int IntKind.i64 (C : Int)] 2)).alloc (Obj.cells #[Value.int IntKind.i64 (R : Int)] 2)).alloc (Obj.cells #[Value.int IntKind.i64 0, Value.int IntKind.i64 0, Value.slice none 0 0] 29)).frozen? ⟨w.heap.size + 2, i, none⟩ = false := fun {i} => by
      have e := World.alloc_heap_new ((w.alloc (Obj.cells #[Value.int IntKind.i64 (C : Int)] 2)).alloc (Obj.cells #[Value.int IntKind.i64 (R : Int)] 2)) rz
      simp only [World.size_alloc] at e
      unfold World.frozen?
      rw [show (((w.alloc (Obj.cells #[Value.int IntKind.i64 (C : Int)] 2)).alloc (Obj.cells #[Value.int IntKind.i64 (R : Int)] 2)).alloc (Obj.cells #[Value.int IntKind.i64 0, Value.int IntKind.i64 0, Value.slice none 0 0] 29)).heap[(⟨w.heap.size + 2, i, none⟩ : Addr).block]? = some rz from e]
      simp [rz]
    have f0 : w2.frozen? ⟨w.heap.size + 2, 0, none⟩ = false := (hb.frozen (p := ⟨w.heap.size + 2, 0, none⟩) (by omega)).trans (by rw [hfw1 _ _ (by first | (simp; done) | (simp; omega))]; exact FZ)
    have f1 : w2.frozen? ⟨w.heap.size + 2, 1, none⟩ = false := (hb.frozen (p := ⟨w.heap.size + 2, 1, none⟩) (by omega)).trans (by rw [hfw1 _ _ (by first | (simp; done) | (simp; omega))]; exact FZ)
    have f2 : w2.frozen? ⟨w.heap.size + 2, 2, none⟩ = false := (hb.frozen (p := ⟨w.heap.size + 2, 2, none⟩) (by omega)).trans (by rw [hfw1 _ _ (by first | (simp; done) | (simp; omega))]; exact FZ)
    have HB2 := Lib.hid (HBw1.out.trans (hb.mono HBw1.out.size))
    clear hb q0 q1 MO S
    go_wp2_with fail
    refine bodyPost_ret (v := .tuple #[.agg #[.int .i64 (C : Int), .int .i64 (R : Int), .slice a L.length cap], .int .i64 0]) (by simp [results, Try.results23, go_sem, r0, r1, r2]) rfl ⟨_, rfl, ?_, ?_⟩
    · refine Sp.Own.le (Sp.Own.mod O1.out (B' := 0) (C' := w.heap.size + 3) ?_ (Or.inr (by omega))) (by omega) (by simp)
      repeat (first | exact Mod.refl _ _ _ | refine Mod.setCell ?_ (by omega) (by omega) _)
    ·
      repeat (first | exact Below.refl _ _ | exact HB2.out | refine Below.setCell ?_ (by first | (simp; done) | omega | (simp; omega)) _ | refine Below.alloc ?_ (by first | (simp; done) | omega | (simp; omega)) _ | refine bel_drew ?_)
theorem plainR_len (c r : Int) : (plainR c r).1.2.2.length ≤ 1048576 := by
  unfold plainR
  split
  · rename_i h
    obtain ⟨hc, hr⟩ := sizeB_bd h
    show (plainL c.toNat r.toNat).length ≤ _
    rw [plainL_len]
    have := Nat.mul_le_mul (show r.toNat ≤ 9 by omega) (show c.toNat ≤ 9 by omega)
    omega
  · exact Nat.zero_le _
end Go.Proofs.Ytbbkohpmncfilaa.Me
