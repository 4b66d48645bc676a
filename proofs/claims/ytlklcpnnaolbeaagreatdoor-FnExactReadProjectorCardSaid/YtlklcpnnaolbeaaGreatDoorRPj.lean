/-
  Projectors read from texts: the contracts of ReadProjector (packages spec and impl).
-/
import Derived.Test.YtlklcpnnaolbeaaGreatDoorEachA
import Derived.Test.YtlklcpnnaolbeaaGreatDoorProjV
import Derived.Deep.Cut
import Derived.Deep.AppendLies
namespace Go.Proofs.YtlklcpnnaolbeaaGreatDoor
open Go.RowKit
set_option linter.unusedVariables false

/-- The projector with a text. -/
def rpjV (l : List UInt8) : Value :=
  match spl 32 l with
  | [n, t1, t2, t3, t4] => if ((okA t1 && (okA t2 && okA t3)) && (numOk t4 && starB ⟨n.toArray⟩ (angE t1) (angE t2) (angE t3) (numV t4))) = true then .tuple #[.agg #[.string ⟨n.toArray⟩, .int .i64 (angE t1), .int .i64 (angE t2), .int .i64 (angE t3), .int .i64 (numV t4)], .bool true] else .tuple #[.agg #[.string ⟨#[]⟩, .int .i64 0, .int .i64 0, .int .i64 0, .int .i64 0], .bool false]
  | _ => .tuple #[.agg #[.string ⟨#[]⟩, .int .i64 0, .int .i64 0, .int .i64 0, .int .i64 0], .bool false]
theorem rpjV_form (l : List UInt8) : ∃ (s : ByteArray) (a b c d : Int) (ok : Bool), rpjV l = .tuple #[.agg #[.string s, .int .i64 a, .int .i64 b, .int .i64 c, .int .i64 d], .bool ok] := by
  unfold rpjV
  split
  · split <;> exact ⟨_, _, _, _, _, _, rfl⟩
  · exact ⟨_, _, _, _, _, _, rfl⟩
theorem rpjV_len (l : List UInt8) (h : (spl 32 l).length ≠ 5) : rpjV l = .tuple #[.agg #[.string ⟨#[]⟩, .int .i64 0, .int .i64 0, .int .i64 0, .int .i64 0], .bool false] := by
  unfold rpjV
  split
  · rename_i e; rw [e] at h; simp at h
  · rfl
theorem rpjV_at (l n t1 t2 t3 t4 : List UInt8) (h : spl 32 l = [n, t1, t2, t3, t4]) : rpjV l = if ((okA t1 && (okA t2 && okA t3)) && (numOk t4 && starB ⟨n.toArray⟩ (angE t1) (angE t2) (angE t3) (numV t4))) = true then .tuple #[.agg #[.string ⟨n.toArray⟩, .int .i64 (angE t1), .int .i64 (angE t2), .int .i64 (angE t3), .int .i64 (numV t4)], .bool true] else .tuple #[.agg #[.string ⟨#[]⟩, .int .i64 0, .int .i64 0, .int .i64 0, .int .i64 0], .bool false] := by
  unfold rpjV
  rw [h]
/-- A projector in a block of its own, that may be written. -/
structure SP5 (w : World) (g : Nat) (s : ByteArray) (a b c d : Int) : Prop where
  c0 : w.cell? ⟨g, 0, none⟩ = some (.string s)
  c1 : w.cell? ⟨g, 1, none⟩ = some (.int .i64 a)
  c2 : w.cell? ⟨g, 2, none⟩ = some (.int .i64 b)
  c3 : w.cell? ⟨g, 3, none⟩ = some (.int .i64 c)
  c4 : w.cell? ⟨g, 4, none⟩ = some (.int .i64 d)
  f0 : w.frozen? ⟨g, 0, none⟩ = false
  f1 : w.frozen? ⟨g, 1, none⟩ = false
  f2 : w.frozen? ⟨g, 2, none⟩ = false
  f3 : w.frozen? ⟨g, 3, none⟩ = false
  f4 : w.frozen? ⟨g, 4, none⟩ = false
theorem SP5.inn {w : World} {g : Nat} {s : ByteArray} {a b c d : Int} (h : SP5 w g s a b c d) : g < w.heap.size := World.block_lt_of_cell? w ⟨g, 0, none⟩ h.c0
theorem SP5.go {w w' : World} {g : Nat} {s : ByteArray} {a b c d : Int} (h : SP5 w g s a b c d) (hb : Below w.heap.size w w') : SP5 w' g s a b c d := by
  obtain ⟨k1, k2⟩ := bcell hb
  have hg := h.inn
  exact ⟨(k1 g 0 hg).trans h.c0, (k1 g 1 hg).trans h.c1, (k1 g 2 hg).trans h.c2, (k1 g 3 hg).trans h.c3, (k1 g 4 hg).trans h.c4, (k2 g 0 hg).trans h.f0, (k2 g 1 hg).trans h.f1, (k2 g 2 hg).trans h.f2, (k2 g 3 hg).trans h.f3, (k2 g 4 hg).trans h.f4⟩
theorem SP5.new (w : World) (T : TypeId) (s : ByteArray) (a b c d : Int) : SP5 (w.alloc (.cells #[.string s, .int .i64 a, .int .i64 b, .int .i64 c, .int .i64 d] T)) w.heap.size s a b c d := ⟨by simp, by simp, by simp, by simp, by simp, by simp, by simp, by simp, by simp, by simp⟩
theorem words_5p {w : World} {B g cap : Nat} {n t u v x : List UInt8} (h : w.ownsRow B 9 1 (.slice (some ⟨g, 0, none⟩) 5 cap) 5 ((bs [n, t, u, v, x]).map Value.string)) : w.cell? ⟨g, 0, none⟩ = some (.string ⟨n.toArray⟩) ∧ w.cell? ⟨g, 1, none⟩ = some (.string ⟨t.toArray⟩) ∧ w.cell? ⟨g, 2, none⟩ = some (.string ⟨u.toArray⟩) ∧ w.cell? ⟨g, 3, none⟩ = some (.string ⟨v.toArray⟩) ∧ w.cell? ⟨g, 4, none⟩ = some (.string ⟨x.toArray⟩) :=
  ⟨by rw [h.cellAt 0 (by omega)]; rfl, by rw [h.cellAt 1 (by omega)]; rfl, by rw [h.cellAt 2 (by omega)]; rfl, by rw [h.cellAt 3 (by omega)]; rfl, by rw [h.cellAt 4 (by omega)]; rfl⟩
theorem own_capP {w : World} {B g n cap : Nat} {xs : List Value} {T : TypeId} (h : w.ownsRow B T 1 (.slice (some ⟨g, 0, none⟩) n cap) n xs) : n ≤ cap := by
  rcases h.2 with ⟨h1, _⟩ | ⟨g', c', cur, h1, _, _, h2, _⟩
  · cases h1
  · injection h1 with _ _ h3
    omega
theorem data_ofP (t : List UInt8) : (⟨t.toArray⟩ : ByteArray).data.toList = t := by simp

set_option maxRecDepth 100000 in
set_option maxHeartbeats 4000000 in
theorem l10Read_any (s : ByteArray) (hs : s.size ≤ 1048576) (w : World) :
    Calls Tryz.prog 35 #[.string s] w fun e w' => e = .returned (rpjV s.data.toList) ∧ Below w.heap.size w w' := by
  have HP : Hid (0 < (bs (spl 32 s.data.toList)).length) := Lib.hid (by rw [bs_len]; exact List.length_pos_iff.2 (spl_ne 32 _))
  have PS := part_size s 32
  by_cases hl : (spl 32 s.data.toList).length = 5
  · obtain ⟨n, t1, t2, t3, t4, hx⟩ : ∃ n t1 t2 t3 t4, spl 32 s.data.toList = [n, t1, t2, t3, t4] := by
      generalize spl 32 s.data.toList = xs at hl
      match xs, hl with
      | [n, t1, t2, t3, t4], _ => exact ⟨n, t1, t2, t3, t4, rfl⟩
    have hsn : (⟨n.toArray⟩ : ByteArray).size ≤ 1048576 := by
      have := PS 0 (by rw [hl]; omega)
      simp only [hx, List.getElem_cons_zero, List.getElem_cons_succ] at this
      omega
    have hst1 : (⟨t1.toArray⟩ : ByteArray).size ≤ 1048576 := by
      have := PS 1 (by rw [hl]; omega)
      simp only [hx, List.getElem_cons_zero, List.getElem_cons_succ] at this
      omega
    have hst2 : (⟨t2.toArray⟩ : ByteArray).size ≤ 1048576 := by
      have := PS 2 (by rw [hl]; omega)
      simp only [hx, List.getElem_cons_zero, List.getElem_cons_succ] at this
      omega
    have hst3 : (⟨t3.toArray⟩ : ByteArray).size ≤ 1048576 := by
      have := PS 3 (by rw [hl]; omega)
      simp only [hx, List.getElem_cons_zero, List.getElem_cons_succ] at this
      omega
    have hst4 : (⟨t4.toArray⟩ : ByteArray).size ≤ 1048576 := by
      have := PS 4 (by rw [hl]; omega)
      simp only [hx, List.getElem_cons_zero, List.getElem_cons_succ] at this
      omega
    rw [rpjV_at s.data.toList n t1 t2 t3 t4 hx]
    have RT1 : Hid (∀ w, Calls Tryz.prog 59 #[.string ⟨t1.toArray⟩] w fun e w' => e = .returned (.tuple #[.int .i64 (angE t1), .bool (okA t1)]) ∧ Below w.heap.size w w') := Lib.hid (fun w => by
      have h := l02Read_any ⟨t1.toArray⟩ hst1 w
      rw [data_ofP] at h
      exact h)
    have RT2 : Hid (∀ w, Calls Tryz.prog 59 #[.string ⟨t2.toArray⟩] w fun e w' => e = .returned (.tuple #[.int .i64 (angE t2), .bool (okA t2)]) ∧ Below w.heap.size w w') := Lib.hid (fun w => by
      have h := l02Read_any ⟨t2.toArray⟩ hst2 w
      rw [data_ofP] at h
      exact h)
    have RT3 : Hid (∀ w, Calls Tryz.prog 59 #[.string ⟨t3.toArray⟩] w fun e w' => e = .returned (.tuple #[.int .i64 (angE t3), .bool (okA t3)]) ∧ Below w.heap.size w w') := Lib.hid (fun w => by
      have h := l02Read_any ⟨t3.toArray⟩ hst3 w
      rw [data_ofP] at h
      exact h)
    have RT4 : Hid (∀ w, Calls Tryz.prog 60 #[.string ⟨t4.toArray⟩] w fun e w' => e = .returned (.tuple #[.int .i64 (numV t4), .bool (numOk t4)]) ∧ Below w.heap.size w w') := Lib.hid (fun w => (l01Number_any ⟨t4.toArray⟩ w (by omega)).mono fun e w' h => ⟨by rw [h.1, data_ofP], by rw [← h.2]; exact Below.refl _ _⟩)
    generalize angE t1 = y1 at *
    generalize angE t2 = y2 at *
    generalize angE t3 = y3 at *
    generalize numV t4 = y4 at *
    have V : Hid (∀ (W : World) q, SP5 W q ⟨n.toArray⟩ y1 y2 y3 y4 → Calls Tryz.prog 46 #[.pointer (some ⟨q, 0, none⟩)] W fun e w' => e = .returned (.bool (starB ⟨n.toArray⟩ y1 y2 y3 y4)) ∧ ∃ m, w' = W.drewN m) := Lib.hid (fun W q h => l10One_at q 0 ⟨⟨n.toArray⟩, y1, y2, y3, y4⟩ W ⟨h.c0, h.c1, h.c2, h.c3, h.c4⟩)
    generalize okA t1 = b1 at *
    generalize okA t2 = b2 at *
    generalize okA t3 = b3 at *
    generalize numOk t4 = b4 at *
    generalize starB ⟨n.toArray⟩ y1 y2 y3 y4 = b5 at *
    obtain ⟨ns, hns2⟩ : ∃ ns : ByteArray, ⟨n.toArray⟩ = ns := ⟨_, rfl⟩
    rw [hns2] at V ⊢
    have HN := Lib.hid hns2
    clear hns2 hsn hst1 hst2 hst3 hst4 PS hl
    cases b1 with
    | false =>
      rw [if_neg (by simp)]
      have Z0 : Hid (SP5 (w.alloc (.cells #[.string ⟨#[]⟩, .int .i64 0, .int .i64 0, .int .i64 0, .int .i64 0] 37)) w.heap.size ⟨#[]⟩ 0 0 0 0) := Lib.hid (SP5.new _ _ _ _ _ _ _)
      have hb0 : Hid (Below w.heap.size w (w.alloc (.cells #[.string ⟨#[]⟩, .int .i64 0, .int .i64 0, .int .i64 0, .int .i64 0] 37))) := Lib.hid ((Below.refl _ _).alloc (Nat.le_refl _) _)
      go_enter Tryz.func35, Tryz.ntmps35
      go_wp2_with fail
      refine (l01Split_any s 32 32 rfl _ hs).mono ?_
      rintro e w1 ⟨v, rfl, hown1, hb1⟩
      obtain ⟨g, cap, rfl⟩ := Go.Joins.ownsRow_form hown1 HP.out
      have hgl := (hown1.lt g rfl).2
      have Z1 := Lib.hid (Z0.out.go hb1)
      have HB1 := Lib.hid (hb0.out.trans (hb1.mono hb0.out.size))
      rw [bs_len] at hown1 ⊢
      clear hb1 hb0 Z0
      simp only [hx, List.length_cons, List.length_nil] at hown1 ⊢
      obtain ⟨d0, d1, d2, d3, d4⟩ := words_5p hown1
      clear hown1
      go_wp2_with fail
      refine (RT1.out _).mono ?_
      rintro e w2 ⟨rfl, hb2⟩
      have Z2 := Lib.hid (Z1.out.go hb2)
      have HB2 := Lib.hid (HB1.out.trans (hb2.mono HB1.out.size))
      have d0x := ((bcell hb2).1 g 0 hgl).trans d0
      have d2x := ((bcell hb2).1 g 2 hgl).trans d2
      have d3x := ((bcell hb2).1 g 3 hgl).trans d3
      have d4x := ((bcell hb2).1 g 4 hgl).trans d4
      have hglx : g < w2.heap.size := World.block_lt_of_cell? w2 ⟨g, 0, none⟩ d0x
      clear hb2 Z1 HB1 hgl d0 d1 d2 d3 d4
      have d0 := d0x
      clear d0x
      have d2 := d2x
      clear d2x
      have d3 := d3x
      clear d3x
      have d4 := d4x
      clear d4x
      have hgl := hglx
      clear hglx
      go_wp2_with fail
      refine (RT2.out _).mono ?_
      rintro e w3 ⟨rfl, hb3⟩
      have Z3 := Lib.hid (Z2.out.go hb3)
      have HB3 := Lib.hid (HB2.out.trans (hb3.mono HB2.out.size))
      have d0x := ((bcell hb3).1 g 0 hgl).trans d0
      have d3x := ((bcell hb3).1 g 3 hgl).trans d3
      have d4x := ((bcell hb3).1 g 4 hgl).trans d4
      have hglx : g < w3.heap.size := World.block_lt_of_cell? w3 ⟨g, 0, none⟩ d0x
      clear hb3 Z2 HB2 hgl d0 d2 d3 d4
      have d0 := d0x
      clear d0x
      have d3 := d3x
      clear d3x
      have d4 := d4x
      clear d4x
      have hgl := hglx
      clear hglx
      go_wp2_with fail
      refine (RT3.out _).mono ?_
      rintro e w4 ⟨rfl, hb4⟩
      have Z4 := Lib.hid (Z3.out.go hb4)
      have HB4 := Lib.hid (HB3.out.trans (hb4.mono HB3.out.size))
      have d0x := ((bcell hb4).1 g 0 hgl).trans d0
      have d4x := ((bcell hb4).1 g 4 hgl).trans d4
      have hglx : g < w4.heap.size := World.block_lt_of_cell? w4 ⟨g, 0, none⟩ d0x
      clear hb4 Z3 HB3 hgl d0 d3 d4
      have d0 := d0x
      clear d0x
      have d4 := d4x
      clear d4x
      have hgl := hglx
      clear hglx
      go_wp2_with fail
      refine (RT4.out _).mono ?_
      rintro e w5 ⟨rfl, hb5⟩
      have Z5 := Lib.hid (Z4.out.go hb5)
      have HB5 := Lib.hid (HB4.out.trans (hb5.mono HB4.out.size))
      have d0x := ((bcell hb5).1 g 0 hgl).trans d0
      have hglx : g < w5.heap.size := World.block_lt_of_cell? w5 ⟨g, 0, none⟩ d0x
      clear hb5 Z4 HB4 hgl d0 d4
      have d0 := d0x
      clear d0x
      have hgl := hglx
      clear hglx
      rw [HN.out] at d0
      clear hx
      obtain ⟨W6, hW6⟩ : ∃ W6, W6 = w5.alloc (.cells #[.string ns, .int .i64 y1, .int .i64 y2, .int .i64 y3, .int .i64 y4] 37) := ⟨_, rfl⟩
      have C6 : Hid (SP5 W6 w5.heap.size ns y1 y2 y3 y4) := Lib.hid (by rw [hW6]; exact SP5.new _ _ _ _ _ _ _)
      have hb6 : Below w5.heap.size w5 W6 := by rw [hW6]; exact (Below.refl _ _).alloc (Nat.le_refl _) _
      have Z6 := Lib.hid (Z5.out.go hb6)
      have HB6 := Lib.hid (HB5.out.trans (hb6.mono HB5.out.size))
      have hl6 : w.heap.size < w5.heap.size := Z5.out.inn
      have HW := Lib.hid hW6
      clear hb6 hW6
      go_upto_region 9 with fail
      rw [← HW.out]
      clear HW d0
      obtain ⟨v0, v1, v2, v3, v4, _, _, _, _, _⟩ := C6.out
      obtain ⟨q0, q1, q2, q3, q4, f0, f1, f2, f3, f4⟩ := Z6.out
      go_wp2_with fail
      refine bodyPost_ret (v := .tuple #[.agg #[.string ⟨#[]⟩, .int .i64 0, .int .i64 0, .int .i64 0, .int .i64 0], .bool false]) (by first | (simp [results, Tryz.results35, go_sem]; done) | (simp [results, Tryz.results35, go_sem, *]; done)) rfl ⟨rfl, ?_⟩
      repeat (first | exact Below.refl _ _ | exact HB6.out | refine Below.setCell ?_ (by first | (simp; done) | omega | (simp; omega)) _ | refine Below.alloc ?_ (by first | (simp; done) | omega | (simp; omega)) _ | refine bel_drew ?_)
    | true =>
      cases b2 with
      | false =>
        rw [if_neg (by simp)]
        have Z0 : Hid (SP5 (w.alloc (.cells #[.string ⟨#[]⟩, .int .i64 0, .int .i64 0, .int .i64 0, .int .i64 0] 37)) w.heap.size ⟨#[]⟩ 0 0 0 0) := Lib.hid (SP5.new _ _ _ _ _ _ _)
        have hb0 : Hid (Below w.heap.size w (w.alloc (.cells #[.string ⟨#[]⟩, .int .i64 0, .int .i64 0, .int .i64 0, .int .i64 0] 37))) := Lib.hid ((Below.refl _ _).alloc (Nat.le_refl _) _)
        go_enter Tryz.func35, Tryz.ntmps35
        go_wp2_with fail
        refine (l01Split_any s 32 32 rfl _ hs).mono ?_
        rintro e w1 ⟨v, rfl, hown1, hb1⟩
        obtain ⟨g, cap, rfl⟩ := Go.Joins.ownsRow_form hown1 HP.out
        have hgl := (hown1.lt g rfl).2
        have Z1 := Lib.hid (Z0.out.go hb1)
        have HB1 := Lib.hid (hb0.out.trans (hb1.mono hb0.out.size))
        rw [bs_len] at hown1 ⊢
        clear hb1 hb0 Z0
        simp only [hx, List.length_cons, List.length_nil] at hown1 ⊢
        obtain ⟨d0, d1, d2, d3, d4⟩ := words_5p hown1
        clear hown1
        go_wp2_with fail
        refine (RT1.out _).mono ?_
        rintro e w2 ⟨rfl, hb2⟩
        have Z2 := Lib.hid (Z1.out.go hb2)
        have HB2 := Lib.hid (HB1.out.trans (hb2.mono HB1.out.size))
        have d0x := ((bcell hb2).1 g 0 hgl).trans d0
        have d2x := ((bcell hb2).1 g 2 hgl).trans d2
        have d3x := ((bcell hb2).1 g 3 hgl).trans d3
        have d4x := ((bcell hb2).1 g 4 hgl).trans d4
        have hglx : g < w2.heap.size := World.block_lt_of_cell? w2 ⟨g, 0, none⟩ d0x
        clear hb2 Z1 HB1 hgl d0 d1 d2 d3 d4
        have d0 := d0x
        clear d0x
        have d2 := d2x
        clear d2x
        have d3 := d3x
        clear d3x
        have d4 := d4x
        clear d4x
        have hgl := hglx
        clear hglx
        go_wp2_with fail
        refine (RT2.out _).mono ?_
        rintro e w3 ⟨rfl, hb3⟩
        have Z3 := Lib.hid (Z2.out.go hb3)
        have HB3 := Lib.hid (HB2.out.trans (hb3.mono HB2.out.size))
        have d0x := ((bcell hb3).1 g 0 hgl).trans d0
        have d3x := ((bcell hb3).1 g 3 hgl).trans d3
        have d4x := ((bcell hb3).1 g 4 hgl).trans d4
        have hglx : g < w3.heap.size := World.block_lt_of_cell? w3 ⟨g, 0, none⟩ d0x
        clear hb3 Z2 HB2 hgl d0 d2 d3 d4
        have d0 := d0x
        clear d0x
        have d3 := d3x
        clear d3x
        have d4 := d4x
        clear d4x
        have hgl := hglx
        clear hglx
        go_wp2_with fail
        refine (RT3.out _).mono ?_
        rintro e w4 ⟨rfl, hb4⟩
        have Z4 := Lib.hid (Z3.out.go hb4)
        have HB4 := Lib.hid (HB3.out.trans (hb4.mono HB3.out.size))
        have d0x := ((bcell hb4).1 g 0 hgl).trans d0
        have d4x := ((bcell hb4).1 g 4 hgl).trans d4
        have hglx : g < w4.heap.size := World.block_lt_of_cell? w4 ⟨g, 0, none⟩ d0x
        clear hb4 Z3 HB3 hgl d0 d3 d4
        have d0 := d0x
        clear d0x
        have d4 := d4x
        clear d4x
        have hgl := hglx
        clear hglx
        go_wp2_with fail
        refine (RT4.out _).mono ?_
        rintro e w5 ⟨rfl, hb5⟩
        have Z5 := Lib.hid (Z4.out.go hb5)
        have HB5 := Lib.hid (HB4.out.trans (hb5.mono HB4.out.size))
        have d0x := ((bcell hb5).1 g 0 hgl).trans d0
        have hglx : g < w5.heap.size := World.block_lt_of_cell? w5 ⟨g, 0, none⟩ d0x
        clear hb5 Z4 HB4 hgl d0 d4
        have d0 := d0x
        clear d0x
        have hgl := hglx
        clear hglx
        rw [HN.out] at d0
        clear hx
        obtain ⟨W6, hW6⟩ : ∃ W6, W6 = w5.alloc (.cells #[.string ns, .int .i64 y1, .int .i64 y2, .int .i64 y3, .int .i64 y4] 37) := ⟨_, rfl⟩
        have C6 : Hid (SP5 W6 w5.heap.size ns y1 y2 y3 y4) := Lib.hid (by rw [hW6]; exact SP5.new _ _ _ _ _ _ _)
        have hb6 : Below w5.heap.size w5 W6 := by rw [hW6]; exact (Below.refl _ _).alloc (Nat.le_refl _) _
        have Z6 := Lib.hid (Z5.out.go hb6)
        have HB6 := Lib.hid (HB5.out.trans (hb6.mono HB5.out.size))
        have hl6 : w.heap.size < w5.heap.size := Z5.out.inn
        have HW := Lib.hid hW6
        clear hb6 hW6
        go_upto_region 9 with fail
        rw [← HW.out]
        clear HW d0
        obtain ⟨v0, v1, v2, v3, v4, _, _, _, _, _⟩ := C6.out
        obtain ⟨q0, q1, q2, q3, q4, f0, f1, f2, f3, f4⟩ := Z6.out
        go_wp2_with fail
        refine bodyPost_ret (v := .tuple #[.agg #[.string ⟨#[]⟩, .int .i64 0, .int .i64 0, .int .i64 0, .int .i64 0], .bool false]) (by first | (simp [results, Tryz.results35, go_sem]; done) | (simp [results, Tryz.results35, go_sem, *]; done)) rfl ⟨rfl, ?_⟩
        repeat (first | exact Below.refl _ _ | exact HB6.out | refine Below.setCell ?_ (by first | (simp; done) | omega | (simp; omega)) _ | refine Below.alloc ?_ (by first | (simp; done) | omega | (simp; omega)) _ | refine bel_drew ?_)
      | true =>
        cases b3 with
        | false =>
          rw [if_neg (by simp)]
          have Z0 : Hid (SP5 (w.alloc (.cells #[.string ⟨#[]⟩, .int .i64 0, .int .i64 0, .int .i64 0, .int .i64 0] 37)) w.heap.size ⟨#[]⟩ 0 0 0 0) := Lib.hid (SP5.new _ _ _ _ _ _ _)
          have hb0 : Hid (Below w.heap.size w (w.alloc (.cells #[.string ⟨#[]⟩, .int .i64 0, .int .i64 0, .int .i64 0, .int .i64 0] 37))) := Lib.hid ((Below.refl _ _).alloc (Nat.le_refl _) _)
          go_enter Tryz.func35, Tryz.ntmps35
          go_wp2_with fail
          refine (l01Split_any s 32 32 rfl _ hs).mono ?_
          rintro e w1 ⟨v, rfl, hown1, hb1⟩
          obtain ⟨g, cap, rfl⟩ := Go.Joins.ownsRow_form hown1 HP.out
          have hgl := (hown1.lt g rfl).2
          have Z1 := Lib.hid (Z0.out.go hb1)
          have HB1 := Lib.hid (hb0.out.trans (hb1.mono hb0.out.size))
          rw [bs_len] at hown1 ⊢
          clear hb1 hb0 Z0
          simp only [hx, List.length_cons, List.length_nil] at hown1 ⊢
          obtain ⟨d0, d1, d2, d3, d4⟩ := words_5p hown1
          clear hown1
          go_wp2_with fail
          refine (RT1.out _).mono ?_
          rintro e w2 ⟨rfl, hb2⟩
          have Z2 := Lib.hid (Z1.out.go hb2)
          have HB2 := Lib.hid (HB1.out.trans (hb2.mono HB1.out.size))
          have d0x := ((bcell hb2).1 g 0 hgl).trans d0
          have d2x := ((bcell hb2).1 g 2 hgl).trans d2
          have d3x := ((bcell hb2).1 g 3 hgl).trans d3
          have d4x := ((bcell hb2).1 g 4 hgl).trans d4
          have hglx : g < w2.heap.size := World.block_lt_of_cell? w2 ⟨g, 0, none⟩ d0x
          clear hb2 Z1 HB1 hgl d0 d1 d2 d3 d4
          have d0 := d0x
          clear d0x
          have d2 := d2x
          clear d2x
          have d3 := d3x
          clear d3x
          have d4 := d4x
          clear d4x
          have hgl := hglx
          clear hglx
          go_wp2_with fail
          refine (RT2.out _).mono ?_
          rintro e w3 ⟨rfl, hb3⟩
          have Z3 := Lib.hid (Z2.out.go hb3)
          have HB3 := Lib.hid (HB2.out.trans (hb3.mono HB2.out.size))
          have d0x := ((bcell hb3).1 g 0 hgl).trans d0
          have d3x := ((bcell hb3).1 g 3 hgl).trans d3
          have d4x := ((bcell hb3).1 g 4 hgl).trans d4
          have hglx : g < w3.heap.size := World.block_lt_of_cell? w3 ⟨g, 0, none⟩ d0x
          clear hb3 Z2 HB2 hgl d0 d2 d3 d4
          have d0 := d0x
          clear d0x
          have d3 := d3x
          clear d3x
          have d4 := d4x
          clear d4x
          have hgl := hglx
          clear hglx
          go_wp2_with fail
          refine (RT3.out _).mono ?_
          rintro e w4 ⟨rfl, hb4⟩
          have Z4 := Lib.hid (Z3.out.go hb4)
          have HB4 := Lib.hid (HB3.out.trans (hb4.mono HB3.out.size))
          have d0x := ((bcell hb4).1 g 0 hgl).trans d0
          have d4x := ((bcell hb4).1 g 4 hgl).trans d4
          have hglx : g < w4.heap.size := World.block_lt_of_cell? w4 ⟨g, 0, none⟩ d0x
          clear hb4 Z3 HB3 hgl d0 d3 d4
          have d0 := d0x
          clear d0x
          have d4 := d4x
          clear d4x
          have hgl := hglx
          clear hglx
          go_wp2_with fail
          refine (RT4.out _).mono ?_
          rintro e w5 ⟨rfl, hb5⟩
          have Z5 := Lib.hid (Z4.out.go hb5)
          have HB5 := Lib.hid (HB4.out.trans (hb5.mono HB4.out.size))
          have d0x := ((bcell hb5).1 g 0 hgl).trans d0
          have hglx : g < w5.heap.size := World.block_lt_of_cell? w5 ⟨g, 0, none⟩ d0x
          clear hb5 Z4 HB4 hgl d0 d4
          have d0 := d0x
          clear d0x
          have hgl := hglx
          clear hglx
          rw [HN.out] at d0
          clear hx
          obtain ⟨W6, hW6⟩ : ∃ W6, W6 = w5.alloc (.cells #[.string ns, .int .i64 y1, .int .i64 y2, .int .i64 y3, .int .i64 y4] 37) := ⟨_, rfl⟩
          have C6 : Hid (SP5 W6 w5.heap.size ns y1 y2 y3 y4) := Lib.hid (by rw [hW6]; exact SP5.new _ _ _ _ _ _ _)
          have hb6 : Below w5.heap.size w5 W6 := by rw [hW6]; exact (Below.refl _ _).alloc (Nat.le_refl _) _
          have Z6 := Lib.hid (Z5.out.go hb6)
          have HB6 := Lib.hid (HB5.out.trans (hb6.mono HB5.out.size))
          have hl6 : w.heap.size < w5.heap.size := Z5.out.inn
          have HW := Lib.hid hW6
          clear hb6 hW6
          go_upto_region 9 with fail
          rw [← HW.out]
          clear HW d0
          obtain ⟨v0, v1, v2, v3, v4, _, _, _, _, _⟩ := C6.out
          obtain ⟨q0, q1, q2, q3, q4, f0, f1, f2, f3, f4⟩ := Z6.out
          go_wp2_with fail
          refine bodyPost_ret (v := .tuple #[.agg #[.string ⟨#[]⟩, .int .i64 0, .int .i64 0, .int .i64 0, .int .i64 0], .bool false]) (by first | (simp [results, Tryz.results35, go_sem]; done) | (simp [results, Tryz.results35, go_sem, *]; done)) rfl ⟨rfl, ?_⟩
          repeat (first | exact Below.refl _ _ | exact HB6.out | refine Below.setCell ?_ (by first | (simp; done) | omega | (simp; omega)) _ | refine Below.alloc ?_ (by first | (simp; done) | omega | (simp; omega)) _ | refine bel_drew ?_)
        | true =>
          cases b4 with
          | false =>
            rw [if_neg (by simp)]
            have Z0 : Hid (SP5 (w.alloc (.cells #[.string ⟨#[]⟩, .int .i64 0, .int .i64 0, .int .i64 0, .int .i64 0] 37)) w.heap.size ⟨#[]⟩ 0 0 0 0) := Lib.hid (SP5.new _ _ _ _ _ _ _)
            have hb0 : Hid (Below w.heap.size w (w.alloc (.cells #[.string ⟨#[]⟩, .int .i64 0, .int .i64 0, .int .i64 0, .int .i64 0] 37))) := Lib.hid ((Below.refl _ _).alloc (Nat.le_refl _) _)
            go_enter Tryz.func35, Tryz.ntmps35
            go_wp2_with fail
            refine (l01Split_any s 32 32 rfl _ hs).mono ?_
            rintro e w1 ⟨v, rfl, hown1, hb1⟩
            obtain ⟨g, cap, rfl⟩ := Go.Joins.ownsRow_form hown1 HP.out
            have hgl := (hown1.lt g rfl).2
            have Z1 := Lib.hid (Z0.out.go hb1)
            have HB1 := Lib.hid (hb0.out.trans (hb1.mono hb0.out.size))
            rw [bs_len] at hown1 ⊢
            clear hb1 hb0 Z0
            simp only [hx, List.length_cons, List.length_nil] at hown1 ⊢
            obtain ⟨d0, d1, d2, d3, d4⟩ := words_5p hown1
            clear hown1
            go_wp2_with fail
            refine (RT1.out _).mono ?_
            rintro e w2 ⟨rfl, hb2⟩
            have Z2 := Lib.hid (Z1.out.go hb2)
            have HB2 := Lib.hid (HB1.out.trans (hb2.mono HB1.out.size))
            have d0x := ((bcell hb2).1 g 0 hgl).trans d0
            have d2x := ((bcell hb2).1 g 2 hgl).trans d2
            have d3x := ((bcell hb2).1 g 3 hgl).trans d3
            have d4x := ((bcell hb2).1 g 4 hgl).trans d4
            have hglx : g < w2.heap.size := World.block_lt_of_cell? w2 ⟨g, 0, none⟩ d0x
            clear hb2 Z1 HB1 hgl d0 d1 d2 d3 d4
            have d0 := d0x
            clear d0x
            have d2 := d2x
            clear d2x
            have d3 := d3x
            clear d3x
            have d4 := d4x
            clear d4x
            have hgl := hglx
            clear hglx
            go_wp2_with fail
            refine (RT2.out _).mono ?_
            rintro e w3 ⟨rfl, hb3⟩
            have Z3 := Lib.hid (Z2.out.go hb3)
            have HB3 := Lib.hid (HB2.out.trans (hb3.mono HB2.out.size))
            have d0x := ((bcell hb3).1 g 0 hgl).trans d0
            have d3x := ((bcell hb3).1 g 3 hgl).trans d3
            have d4x := ((bcell hb3).1 g 4 hgl).trans d4
            have hglx : g < w3.heap.size := World.block_lt_of_cell? w3 ⟨g, 0, none⟩ d0x
            clear hb3 Z2 HB2 hgl d0 d2 d3 d4
            have d0 := d0x
            clear d0x
            have d3 := d3x
            clear d3x
            have d4 := d4x
            clear d4x
            have hgl := hglx
            clear hglx
            go_wp2_with fail
            refine (RT3.out _).mono ?_
            rintro e w4 ⟨rfl, hb4⟩
            have Z4 := Lib.hid (Z3.out.go hb4)
            have HB4 := Lib.hid (HB3.out.trans (hb4.mono HB3.out.size))
            have d0x := ((bcell hb4).1 g 0 hgl).trans d0
            have d4x := ((bcell hb4).1 g 4 hgl).trans d4
            have hglx : g < w4.heap.size := World.block_lt_of_cell? w4 ⟨g, 0, none⟩ d0x
            clear hb4 Z3 HB3 hgl d0 d3 d4
            have d0 := d0x
            clear d0x
            have d4 := d4x
            clear d4x
            have hgl := hglx
            clear hglx
            go_wp2_with fail
            refine (RT4.out _).mono ?_
            rintro e w5 ⟨rfl, hb5⟩
            have Z5 := Lib.hid (Z4.out.go hb5)
            have HB5 := Lib.hid (HB4.out.trans (hb5.mono HB4.out.size))
            have d0x := ((bcell hb5).1 g 0 hgl).trans d0
            have hglx : g < w5.heap.size := World.block_lt_of_cell? w5 ⟨g, 0, none⟩ d0x
            clear hb5 Z4 HB4 hgl d0 d4
            have d0 := d0x
            clear d0x
            have hgl := hglx
            clear hglx
            rw [HN.out] at d0
            clear hx
            obtain ⟨W6, hW6⟩ : ∃ W6, W6 = w5.alloc (.cells #[.string ns, .int .i64 y1, .int .i64 y2, .int .i64 y3, .int .i64 y4] 37) := ⟨_, rfl⟩
            have C6 : Hid (SP5 W6 w5.heap.size ns y1 y2 y3 y4) := Lib.hid (by rw [hW6]; exact SP5.new _ _ _ _ _ _ _)
            have hb6 : Below w5.heap.size w5 W6 := by rw [hW6]; exact (Below.refl _ _).alloc (Nat.le_refl _) _
            have Z6 := Lib.hid (Z5.out.go hb6)
            have HB6 := Lib.hid (HB5.out.trans (hb6.mono HB5.out.size))
            have hl6 : w.heap.size < w5.heap.size := Z5.out.inn
            have HW := Lib.hid hW6
            clear hb6 hW6
            go_upto_region 9 with fail
            rw [← HW.out]
            clear HW d0
            obtain ⟨v0, v1, v2, v3, v4, _, _, _, _, _⟩ := C6.out
            obtain ⟨q0, q1, q2, q3, q4, f0, f1, f2, f3, f4⟩ := Z6.out
            go_wp2_with fail
            refine bodyPost_ret (v := .tuple #[.agg #[.string ⟨#[]⟩, .int .i64 0, .int .i64 0, .int .i64 0, .int .i64 0], .bool false]) (by first | (simp [results, Tryz.results35, go_sem]; done) | (simp [results, Tryz.results35, go_sem, *]; done)) rfl ⟨rfl, ?_⟩
            repeat (first | exact Below.refl _ _ | exact HB6.out | refine Below.setCell ?_ (by first | (simp; done) | omega | (simp; omega)) _ | refine Below.alloc ?_ (by first | (simp; done) | omega | (simp; omega)) _ | refine bel_drew ?_)
          | true =>
            cases b5 with
            | false =>
              rw [if_neg (by simp)]
              have Z0 : Hid (SP5 (w.alloc (.cells #[.string ⟨#[]⟩, .int .i64 0, .int .i64 0, .int .i64 0, .int .i64 0] 37)) w.heap.size ⟨#[]⟩ 0 0 0 0) := Lib.hid (SP5.new _ _ _ _ _ _ _)
              have hb0 : Hid (Below w.heap.size w (w.alloc (.cells #[.string ⟨#[]⟩, .int .i64 0, .int .i64 0, .int .i64 0, .int .i64 0] 37))) := Lib.hid ((Below.refl _ _).alloc (Nat.le_refl _) _)
              go_enter Tryz.func35, Tryz.ntmps35
              go_wp2_with fail
              refine (l01Split_any s 32 32 rfl _ hs).mono ?_
              rintro e w1 ⟨v, rfl, hown1, hb1⟩
              obtain ⟨g, cap, rfl⟩ := Go.Joins.ownsRow_form hown1 HP.out
              have hgl := (hown1.lt g rfl).2
              have Z1 := Lib.hid (Z0.out.go hb1)
              have HB1 := Lib.hid (hb0.out.trans (hb1.mono hb0.out.size))
              rw [bs_len] at hown1 ⊢
              clear hb1 hb0 Z0
              simp only [hx, List.length_cons, List.length_nil] at hown1 ⊢
              obtain ⟨d0, d1, d2, d3, d4⟩ := words_5p hown1
              clear hown1
              go_wp2_with fail
              refine (RT1.out _).mono ?_
              rintro e w2 ⟨rfl, hb2⟩
              have Z2 := Lib.hid (Z1.out.go hb2)
              have HB2 := Lib.hid (HB1.out.trans (hb2.mono HB1.out.size))
              have d0x := ((bcell hb2).1 g 0 hgl).trans d0
              have d2x := ((bcell hb2).1 g 2 hgl).trans d2
              have d3x := ((bcell hb2).1 g 3 hgl).trans d3
              have d4x := ((bcell hb2).1 g 4 hgl).trans d4
              have hglx : g < w2.heap.size := World.block_lt_of_cell? w2 ⟨g, 0, none⟩ d0x
              clear hb2 Z1 HB1 hgl d0 d1 d2 d3 d4
              have d0 := d0x
              clear d0x
              have d2 := d2x
              clear d2x
              have d3 := d3x
              clear d3x
              have d4 := d4x
              clear d4x
              have hgl := hglx
              clear hglx
              go_wp2_with fail
              refine (RT2.out _).mono ?_
              rintro e w3 ⟨rfl, hb3⟩
              have Z3 := Lib.hid (Z2.out.go hb3)
              have HB3 := Lib.hid (HB2.out.trans (hb3.mono HB2.out.size))
              have d0x := ((bcell hb3).1 g 0 hgl).trans d0
              have d3x := ((bcell hb3).1 g 3 hgl).trans d3
              have d4x := ((bcell hb3).1 g 4 hgl).trans d4
              have hglx : g < w3.heap.size := World.block_lt_of_cell? w3 ⟨g, 0, none⟩ d0x
              clear hb3 Z2 HB2 hgl d0 d2 d3 d4
              have d0 := d0x
              clear d0x
              have d3 := d3x
              clear d3x
              have d4 := d4x
              clear d4x
              have hgl := hglx
              clear hglx
              go_wp2_with fail
              refine (RT3.out _).mono ?_
              rintro e w4 ⟨rfl, hb4⟩
              have Z4 := Lib.hid (Z3.out.go hb4)
              have HB4 := Lib.hid (HB3.out.trans (hb4.mono HB3.out.size))
              have d0x := ((bcell hb4).1 g 0 hgl).trans d0
              have d4x := ((bcell hb4).1 g 4 hgl).trans d4
              have hglx : g < w4.heap.size := World.block_lt_of_cell? w4 ⟨g, 0, none⟩ d0x
              clear hb4 Z3 HB3 hgl d0 d3 d4
              have d0 := d0x
              clear d0x
              have d4 := d4x
              clear d4x
              have hgl := hglx
              clear hglx
              go_wp2_with fail
              refine (RT4.out _).mono ?_
              rintro e w5 ⟨rfl, hb5⟩
              have Z5 := Lib.hid (Z4.out.go hb5)
              have HB5 := Lib.hid (HB4.out.trans (hb5.mono HB4.out.size))
              have d0x := ((bcell hb5).1 g 0 hgl).trans d0
              have hglx : g < w5.heap.size := World.block_lt_of_cell? w5 ⟨g, 0, none⟩ d0x
              clear hb5 Z4 HB4 hgl d0 d4
              have d0 := d0x
              clear d0x
              have hgl := hglx
              clear hglx
              rw [HN.out] at d0
              clear hx
              obtain ⟨W6, hW6⟩ : ∃ W6, W6 = w5.alloc (.cells #[.string ns, .int .i64 y1, .int .i64 y2, .int .i64 y3, .int .i64 y4] 37) := ⟨_, rfl⟩
              have C6 : Hid (SP5 W6 w5.heap.size ns y1 y2 y3 y4) := Lib.hid (by rw [hW6]; exact SP5.new _ _ _ _ _ _ _)
              have hb6 : Below w5.heap.size w5 W6 := by rw [hW6]; exact (Below.refl _ _).alloc (Nat.le_refl _) _
              have Z6 := Lib.hid (Z5.out.go hb6)
              have HB6 := Lib.hid (HB5.out.trans (hb6.mono HB5.out.size))
              have hl6 : w.heap.size < w5.heap.size := Z5.out.inn
              have HW := Lib.hid hW6
              clear hb6 hW6
              go_upto_region 9 with fail
              rw [← HW.out]
              clear HW d0
              obtain ⟨v0, v1, v2, v3, v4, _, _, _, _, _⟩ := C6.out
              obtain ⟨q0, q1, q2, q3, q4, f0, f1, f2, f3, f4⟩ := Z6.out
              go_wp2_with fail
              refine (V.out _ _ C6.out).mono ?_
              rintro e w7 ⟨rfl, m, rfl⟩
              have hb7 : Below W6.heap.size W6 (W6.drewN m) := ⟨rfl, rfl, rfl, Nat.le_refl _, fun _ _ => rfl⟩
              have HB7 := Lib.hid (HB6.out.trans (hb7.mono HB6.out.size))
              have C7 := C6.out.go hb7
              have Z7 := Z6.out.go hb7
              clear hb7 v0 v1 v2 v3 v4 q0 q1 q2 q3 q4 f0 f1 f2 f3 f4
              generalize W6.drewN m = W7 at *
              obtain ⟨v0, v1, v2, v3, v4, _, _, _, _, _⟩ := C7
              obtain ⟨q0, q1, q2, q3, q4, f0, f1, f2, f3, f4⟩ := Z7
              go_wp2_with fail
              refine bodyPost_ret (v := .tuple #[.agg #[.string ⟨#[]⟩, .int .i64 0, .int .i64 0, .int .i64 0, .int .i64 0], .bool false]) (by first | (simp [results, Tryz.results35, go_sem]; done) | (simp [results, Tryz.results35, go_sem, *]; done)) rfl ⟨rfl, ?_⟩
              repeat (first | exact Below.refl _ _ | exact HB7.out | refine Below.setCell ?_ (by first | (simp; done) | omega | (simp; omega)) _ | refine Below.alloc ?_ (by first | (simp; done) | omega | (simp; omega)) _ | refine bel_drew ?_)
            | true =>
              rw [if_pos (by rfl)]
              have Z0 : Hid (SP5 (w.alloc (.cells #[.string ⟨#[]⟩, .int .i64 0, .int .i64 0, .int .i64 0, .int .i64 0] 37)) w.heap.size ⟨#[]⟩ 0 0 0 0) := Lib.hid (SP5.new _ _ _ _ _ _ _)
              have hb0 : Hid (Below w.heap.size w (w.alloc (.cells #[.string ⟨#[]⟩, .int .i64 0, .int .i64 0, .int .i64 0, .int .i64 0] 37))) := Lib.hid ((Below.refl _ _).alloc (Nat.le_refl _) _)
              go_enter Tryz.func35, Tryz.ntmps35
              go_wp2_with fail
              refine (l01Split_any s 32 32 rfl _ hs).mono ?_
              rintro e w1 ⟨v, rfl, hown1, hb1⟩
              obtain ⟨g, cap, rfl⟩ := Go.Joins.ownsRow_form hown1 HP.out
              have hgl := (hown1.lt g rfl).2
              have Z1 := Lib.hid (Z0.out.go hb1)
              have HB1 := Lib.hid (hb0.out.trans (hb1.mono hb0.out.size))
              rw [bs_len] at hown1 ⊢
              clear hb1 hb0 Z0
              simp only [hx, List.length_cons, List.length_nil] at hown1 ⊢
              obtain ⟨d0, d1, d2, d3, d4⟩ := words_5p hown1
              clear hown1
              go_wp2_with fail
              refine (RT1.out _).mono ?_
              rintro e w2 ⟨rfl, hb2⟩
              have Z2 := Lib.hid (Z1.out.go hb2)
              have HB2 := Lib.hid (HB1.out.trans (hb2.mono HB1.out.size))
              have d0x := ((bcell hb2).1 g 0 hgl).trans d0
              have d2x := ((bcell hb2).1 g 2 hgl).trans d2
              have d3x := ((bcell hb2).1 g 3 hgl).trans d3
              have d4x := ((bcell hb2).1 g 4 hgl).trans d4
              have hglx : g < w2.heap.size := World.block_lt_of_cell? w2 ⟨g, 0, none⟩ d0x
              clear hb2 Z1 HB1 hgl d0 d1 d2 d3 d4
              have d0 := d0x
              clear d0x
              have d2 := d2x
              clear d2x
              have d3 := d3x
              clear d3x
              have d4 := d4x
              clear d4x
              have hgl := hglx
              clear hglx
              go_wp2_with fail
              refine (RT2.out _).mono ?_
              rintro e w3 ⟨rfl, hb3⟩
              have Z3 := Lib.hid (Z2.out.go hb3)
              have HB3 := Lib.hid (HB2.out.trans (hb3.mono HB2.out.size))
              have d0x := ((bcell hb3).1 g 0 hgl).trans d0
              have d3x := ((bcell hb3).1 g 3 hgl).trans d3
              have d4x := ((bcell hb3).1 g 4 hgl).trans d4
              have hglx : g < w3.heap.size := World.block_lt_of_cell? w3 ⟨g, 0, none⟩ d0x
              clear hb3 Z2 HB2 hgl d0 d2 d3 d4
              have d0 := d0x
              clear d0x
              have d3 := d3x
              clear d3x
              have d4 := d4x
              clear d4x
              have hgl := hglx
              clear hglx
              go_wp2_with fail
              refine (RT3.out _).mono ?_
              rintro e w4 ⟨rfl, hb4⟩
              have Z4 := Lib.hid (Z3.out.go hb4)
              have HB4 := Lib.hid (HB3.out.trans (hb4.mono HB3.out.size))
              have d0x := ((bcell hb4).1 g 0 hgl).trans d0
              have d4x := ((bcell hb4).1 g 4 hgl).trans d4
              have hglx : g < w4.heap.size := World.block_lt_of_cell? w4 ⟨g, 0, none⟩ d0x
              clear hb4 Z3 HB3 hgl d0 d3 d4
              have d0 := d0x
              clear d0x
              have d4 := d4x
              clear d4x
              have hgl := hglx
              clear hglx
              go_wp2_with fail
              refine (RT4.out _).mono ?_
              rintro e w5 ⟨rfl, hb5⟩
              have Z5 := Lib.hid (Z4.out.go hb5)
              have HB5 := Lib.hid (HB4.out.trans (hb5.mono HB4.out.size))
              have d0x := ((bcell hb5).1 g 0 hgl).trans d0
              have hglx : g < w5.heap.size := World.block_lt_of_cell? w5 ⟨g, 0, none⟩ d0x
              clear hb5 Z4 HB4 hgl d0 d4
              have d0 := d0x
              clear d0x
              have hgl := hglx
              clear hglx
              rw [HN.out] at d0
              clear hx
              obtain ⟨W6, hW6⟩ : ∃ W6, W6 = w5.alloc (.cells #[.string ns, .int .i64 y1, .int .i64 y2, .int .i64 y3, .int .i64 y4] 37) := ⟨_, rfl⟩
              have C6 : Hid (SP5 W6 w5.heap.size ns y1 y2 y3 y4) := Lib.hid (by rw [hW6]; exact SP5.new _ _ _ _ _ _ _)
              have hb6 : Below w5.heap.size w5 W6 := by rw [hW6]; exact (Below.refl _ _).alloc (Nat.le_refl _) _
              have Z6 := Lib.hid (Z5.out.go hb6)
              have HB6 := Lib.hid (HB5.out.trans (hb6.mono HB5.out.size))
              have hl6 : w.heap.size < w5.heap.size := Z5.out.inn
              have HW := Lib.hid hW6
              clear hb6 hW6
              go_upto_region 9 with fail
              rw [← HW.out]
              clear HW d0
              obtain ⟨v0, v1, v2, v3, v4, _, _, _, _, _⟩ := C6.out
              obtain ⟨q0, q1, q2, q3, q4, f0, f1, f2, f3, f4⟩ := Z6.out
              go_wp2_with fail
              refine (V.out _ _ C6.out).mono ?_
              rintro e w7 ⟨rfl, m, rfl⟩
              have hb7 : Below W6.heap.size W6 (W6.drewN m) := ⟨rfl, rfl, rfl, Nat.le_refl _, fun _ _ => rfl⟩
              have HB7 := Lib.hid (HB6.out.trans (hb7.mono HB6.out.size))
              have C7 := C6.out.go hb7
              have Z7 := Z6.out.go hb7
              clear hb7 v0 v1 v2 v3 v4 q0 q1 q2 q3 q4 f0 f1 f2 f3 f4
              generalize W6.drewN m = W7 at *
              obtain ⟨v0, v1, v2, v3, v4, _, _, _, _, _⟩ := C7
              obtain ⟨q0, q1, q2, q3, q4, f0, f1, f2, f3, f4⟩ := Z7
              go_wp2_with fail
              refine bodyPost_ret (v := .tuple #[.agg #[.string ns, .int .i64 y1, .int .i64 y2, .int .i64 y3, .int .i64 y4], .bool true]) (by first | (simp [results, Tryz.results35, go_sem]; done) | (simp [results, Tryz.results35, go_sem, *]; done)) rfl ⟨rfl, ?_⟩
              repeat (first | exact Below.refl _ _ | exact HB7.out | refine Below.setCell ?_ (by first | (simp; done) | omega | (simp; omega)) _ | refine Below.alloc ?_ (by first | (simp; done) | omega | (simp; omega)) _ | refine bel_drew ?_)
  · rw [rpjV_len _ hl]
    have hl' : (((spl 32 s.data.toList).length : Int) == 5) = false := by simp; omega
    have hl2 : ¬ ((spl 32 s.data.toList).length : Int) = 5 := by omega
    clear PS
    have Z0 : Hid (SP5 (w.alloc (.cells #[.string ⟨#[]⟩, .int .i64 0, .int .i64 0, .int .i64 0, .int .i64 0] 37)) w.heap.size ⟨#[]⟩ 0 0 0 0) := Lib.hid (SP5.new _ _ _ _ _ _ _)
    have hb0 : Hid (Below w.heap.size w (w.alloc (.cells #[.string ⟨#[]⟩, .int .i64 0, .int .i64 0, .int .i64 0, .int .i64 0] 37))) := Lib.hid ((Below.refl _ _).alloc (Nat.le_refl _) _)
    go_enter Tryz.func35, Tryz.ntmps35
    go_wp2_with fail
    refine (l01Split_any s 32 32 rfl _ hs).mono ?_
    rintro e w1 ⟨v, rfl, hown1, hb1⟩
    obtain ⟨g, cap, rfl⟩ := Go.Joins.ownsRow_form hown1 HP.out
    have hgl := (hown1.lt g rfl).2
    have Z1 := Lib.hid (Z0.out.go hb1)
    have HB1 := Lib.hid (hb0.out.trans (hb1.mono hb0.out.size))
    rw [bs_len] at hown1 ⊢
    clear hb1 hb0 Z0
    generalize (spl 32 s.data.toList).length = len at *
    have HO := Lib.hid hown1
    clear hown1
    obtain ⟨q0, q1, q2, q3, q4, f0, f1, f2, f3, f4⟩ := Z1.out
    go_wp2_with fail
    refine bodyPost_ret (v := .tuple #[.agg #[.string ⟨#[]⟩, .int .i64 0, .int .i64 0, .int .i64 0, .int .i64 0], .bool false]) (by first | (simp [results, Tryz.results35, go_sem]; done) | (simp [results, Tryz.results35, go_sem, *]; done)) rfl ⟨rfl, ?_⟩
    repeat (first | exact Below.refl _ _ | exact HB1.out | refine Below.setCell ?_ (by first | (simp; done) | omega | (simp; omega)) _ | refine Below.alloc ?_ (by first | (simp; done) | omega | (simp; omega)) _ | refine bel_drew ?_)

set_option maxHeartbeats 400000 in
theorem specRPj_any (s : ByteArray) (hs : s.size ≤ 1048576) (w : World) :
    Calls Tryz.prog 18 #[.string s] w fun e w' => e = .returned (rpjV s.data.toList) ∧ Below w.heap.size w w' := by
  have F := Lib.hid (fun w => l10Read_any s hs w)
  obtain ⟨x, y, z, u, v, ok, hz⟩ := rpjV_form s.data.toList
  rw [hz] at F ⊢
  clear hz
  have Z0 : Hid (SP5 (w.alloc (.cells #[.string ⟨#[]⟩, .int .i64 0, .int .i64 0, .int .i64 0, .int .i64 0] 37)) w.heap.size ⟨#[]⟩ 0 0 0 0) := Lib.hid (SP5.new _ _ _ _ _ _ _)
  have hb0 : Hid (Below w.heap.size w (w.alloc (.cells #[.string ⟨#[]⟩, .int .i64 0, .int .i64 0, .int .i64 0, .int .i64 0] 37))) := Lib.hid ((Below.refl _ _).alloc (Nat.le_refl _) _)
  go_enter Tryz.func18, Tryz.ntmps18
  go_wp2_with fail
  refine (F.out _).mono ?_
  rintro e w1 ⟨rfl, hb⟩
  have Z1 := Lib.hid (Z0.out.go hb)
  have HB := Lib.hid (hb0.out.trans (hb.mono hb0.out.size))
  clear hb Z0 hb0
  obtain ⟨q0, q1, q2, q3, q4, f0, f1, f2, f3, f4⟩ := Z1.out
  go_wp2_with fail
  refine bodyPost_ret (v := .tuple #[.agg #[.string x, .int .i64 y, .int .i64 z, .int .i64 u, .int .i64 v], .bool ok]) (by first | (simp [results, Tryz.results18, go_sem]; done) | (simp [results, Tryz.results18, go_sem, *]; done)) rfl ⟨rfl, ?_⟩
  repeat (first | exact Below.refl _ _ | exact HB.out | refine Below.setCell ?_ (by first | (simp; done) | omega | (simp; omega)) _ | refine Below.alloc ?_ (by first | (simp; done) | omega | (simp; omega)) _ | refine bel_drew ?_)

set_option maxRecDepth 100000 in
set_option maxHeartbeats 4000000 in
theorem implRPj_any (s : ByteArray) (hs : s.size ≤ 1048576) (w : World) (ht : TabOK w) (he : ErrOK w) (hlen : LenOK w) :
    Calls Tryz.prog 19 #[.string s] w fun e w' => e = .returned (rpjV s.data.toList) ∧ Below w.heap.size w w' := by
  have HP : Hid (0 < (bs (spl 32 s.data.toList)).length) := Lib.hid (by rw [bs_len]; exact List.length_pos_iff.2 (spl_ne 32 _))
  have PS := part_size s 32
  have TE := Lib.hid ht
  have EE := Lib.hid he
  have LE := Lib.hid hlen
  clear ht he hlen
  by_cases hl : (spl 32 s.data.toList).length = 5
  · obtain ⟨n, t1, t2, t3, t4, hx⟩ : ∃ n t1 t2 t3 t4, spl 32 s.data.toList = [n, t1, t2, t3, t4] := by
      generalize spl 32 s.data.toList = xs at hl
      match xs, hl with
      | [n, t1, t2, t3, t4], _ => exact ⟨n, t1, t2, t3, t4, rfl⟩
    have hsn : (⟨n.toArray⟩ : ByteArray).size ≤ 1048576 := by
      have := PS 0 (by rw [hl]; omega)
      simp only [hx, List.getElem_cons_zero, List.getElem_cons_succ] at this
      omega
    have hst1 : (⟨t1.toArray⟩ : ByteArray).size ≤ 1048576 := by
      have := PS 1 (by rw [hl]; omega)
      simp only [hx, List.getElem_cons_zero, List.getElem_cons_succ] at this
      omega
    have hst2 : (⟨t2.toArray⟩ : ByteArray).size ≤ 1048576 := by
      have := PS 2 (by rw [hl]; omega)
      simp only [hx, List.getElem_cons_zero, List.getElem_cons_succ] at this
      omega
    have hst3 : (⟨t3.toArray⟩ : ByteArray).size ≤ 1048576 := by
      have := PS 3 (by rw [hl]; omega)
      simp only [hx, List.getElem_cons_zero, List.getElem_cons_succ] at this
      omega
    have hst4 : (⟨t4.toArray⟩ : ByteArray).size ≤ 1048576 := by
      have := PS 4 (by rw [hl]; omega)
      simp only [hx, List.getElem_cons_zero, List.getElem_cons_succ] at this
      omega
    rw [rpjV_at s.data.toList n t1 t2 t3 t4 hx]
    have EA : Hid (∀ (g cap : Nat) (W : World), W.cell? ⟨g, 1, none⟩ = some (.string ⟨t1.toArray⟩) → W.cell? ⟨g, 2, none⟩ = some (.string ⟨t2.toArray⟩) → W.cell? ⟨g, 3, none⟩ = some (.string ⟨t3.toArray⟩) → TabOK W → ErrOK W → LenOK W → Calls Tryz.prog 37 #[.slice (some ⟨g, 1, none⟩) 3 cap, .func (.func 38) #[] #[]] W fun e w' => ∃ v, e = .returned (.tuple #[v, .bool (okA t1 && (okA t2 && okA t3))]) ∧ ((okA t1 && (okA t2 && okA t3)) = true → w'.ownsRow W.heap.size 2 1 v 3 [.int .i64 (angE t1), .int .i64 (angE t2), .int .i64 (angE t3)]) ∧ Below W.heap.size W w') := Lib.hid (fun g cap W h1 h2 h3 ha hb hc => by
      have h := eachA_any g 1 cap [t1, t2, t3] W (by simp) (World.block_lt_of_cell? W ⟨g, 1, none⟩ h1) (fun j hj => by
        match j, hj with
        | 0, _ => exact h1
        | 1, _ => exact h2
        | 2, _ => exact h3) (fun j hj => by
        match j, hj with
        | 0, _ => exact hst1
        | 1, _ => exact hst2
        | 2, _ => exact hst3) ha hb hc
      have e : ([t1, t2, t3].all okA) = (okA t1 && (okA t2 && okA t3)) := by simp [List.all]
      unfold EachPostA at h
      rw [e] at h
      exact h)
    have RD : Hid (∀ W, TabOK W → ErrOK W → Calls Tryz.prog 39 #[.string ⟨t4.toArray⟩] W fun e w' => e = .returned (.tuple #[.int .i64 (numV t4), .bool (numOk t4)]) ∧ Below W.heap.size W w') := Lib.hid (fun W a b => implRead_any ⟨t4.toArray⟩ W hst4 a b)
    generalize angE t1 = y1 at *
    generalize angE t2 = y2 at *
    generalize angE t3 = y3 at *
    generalize numV t4 = y4 at *
    have V := Lib.hid (fun w => projValid_any ⟨n.toArray⟩ y1 y2 y3 y4 (by unfold maxLen; omega) w)
    generalize (okA t1 && (okA t2 && okA t3)) = bA at *
    generalize numOk t4 = b4 at *
    generalize starB ⟨n.toArray⟩ y1 y2 y3 y4 = b5 at *
    obtain ⟨ns, hns2⟩ : ∃ ns : ByteArray, ⟨n.toArray⟩ = ns := ⟨_, rfl⟩
    rw [hns2] at V ⊢
    have HN := Lib.hid hns2
    clear hns2 hsn hst1 hst2 hst3 hst4 PS hl
    cases bA with
    | false =>
      rw [if_neg (by simp)]
      have Z0 : Hid (SP5 (w.alloc (.cells #[.string ⟨#[]⟩, .int .i64 0, .int .i64 0, .int .i64 0, .int .i64 0] 37)) w.heap.size ⟨#[]⟩ 0 0 0 0) := Lib.hid (SP5.new _ _ _ _ _ _ _)
      have hb0 : Hid (Below w.heap.size w (w.alloc (.cells #[.string ⟨#[]⟩, .int .i64 0, .int .i64 0, .int .i64 0, .int .i64 0] 37))) := Lib.hid ((Below.refl _ _).alloc (Nat.le_refl _) _)
      go_enter Tryz.func19, Tryz.ntmps19
      go_wp2_with fail
      refine (split_any s 32 _ hs (LE.out.below hb0.out)).mono ?_
      rintro e w1 ⟨v, rfl, hown1, hb1⟩
      obtain ⟨g, cap, rfl⟩ := Go.Joins.ownsRow_form hown1 HP.out
      have hgl := (hown1.lt g rfl).2
      have Z1 := Lib.hid (Z0.out.go hb1)
      have HB1 := Lib.hid (hb0.out.trans (hb1.mono hb0.out.size))
      rw [bs_len] at hown1 ⊢
      clear hb1 hb0 Z0
      simp only [hx, List.length_cons, List.length_nil] at hown1 ⊢
      have hcap := own_capP hown1
      have hcap2 : (4 : Int) ≤ (cap : Int) := by omega
      obtain ⟨d0, d1, d2, d3, d4⟩ := words_5p hown1
      clear hown1
      go_wp2_with fail
      refine (EA.out g _ _ d1 d2 d3 (TE.out.below HB1.out) (EE.out.below HB1.out) (LE.out.below HB1.out)).mono ?_
      rintro e w2 ⟨va, rfl, hown2, hb2⟩
      have Z2 := Lib.hid (Z1.out.go hb2)
      have HB2 := Lib.hid (HB1.out.trans (hb2.mono HB1.out.size))
      have e0 := ((bcell hb2).1 g 0 hgl).trans d0
      have e4 := ((bcell hb2).1 g 4 hgl).trans d4
      have hgl2 : g < w2.heap.size := World.block_lt_of_cell? w2 ⟨g, 0, none⟩ e0
      have HO2 := Lib.hid hown2
      clear hb2 d0 d1 d2 d3 d4 Z1 HB1 hown2 hx
      go_wp2_with fail
      refine (RD.out _ (TE.out.below HB2.out) (EE.out.below HB2.out)).mono ?_
      rintro e w3 ⟨rfl, hb3⟩
      have Z3 := Lib.hid (Z2.out.go hb3)
      have HB3 := Lib.hid (HB2.out.trans (hb3.mono HB2.out.size))
      have a0 := ((bcell hb3).1 g 0 hgl2).trans e0
      rw [HN.out] at a0
      clear hb3 e0 e4 Z2
      obtain ⟨q0, q1, q2, q3, q4, f0, f1, f2, f3, f4⟩ := Z3.out
      go_wp2_with fail
      refine bodyPost_ret (v := .tuple #[.agg #[.string ⟨#[]⟩, .int .i64 0, .int .i64 0, .int .i64 0, .int .i64 0], .bool false]) (by first | (simp [results, Tryz.results19, go_sem]; done) | (simp [results, Tryz.results19, go_sem, *]; done)) rfl ⟨rfl, ?_⟩
      repeat (first | exact Below.refl _ _ | exact HB3.out | refine Below.setCell ?_ (by first | (simp; done) | omega | (simp; omega)) _ | refine Below.alloc ?_ (by first | (simp; done) | omega | (simp; omega)) _ | refine bel_drew ?_)
    | true =>
      cases b4 with
      | false =>
        rw [if_neg (by simp)]
        have Z0 : Hid (SP5 (w.alloc (.cells #[.string ⟨#[]⟩, .int .i64 0, .int .i64 0, .int .i64 0, .int .i64 0] 37)) w.heap.size ⟨#[]⟩ 0 0 0 0) := Lib.hid (SP5.new _ _ _ _ _ _ _)
        have hb0 : Hid (Below w.heap.size w (w.alloc (.cells #[.string ⟨#[]⟩, .int .i64 0, .int .i64 0, .int .i64 0, .int .i64 0] 37))) := Lib.hid ((Below.refl _ _).alloc (Nat.le_refl _) _)
        go_enter Tryz.func19, Tryz.ntmps19
        go_wp2_with fail
        refine (split_any s 32 _ hs (LE.out.below hb0.out)).mono ?_
        rintro e w1 ⟨v, rfl, hown1, hb1⟩
        obtain ⟨g, cap, rfl⟩ := Go.Joins.ownsRow_form hown1 HP.out
        have hgl := (hown1.lt g rfl).2
        have Z1 := Lib.hid (Z0.out.go hb1)
        have HB1 := Lib.hid (hb0.out.trans (hb1.mono hb0.out.size))
        rw [bs_len] at hown1 ⊢
        clear hb1 hb0 Z0
        simp only [hx, List.length_cons, List.length_nil] at hown1 ⊢
        have hcap := own_capP hown1
        have hcap2 : (4 : Int) ≤ (cap : Int) := by omega
        obtain ⟨d0, d1, d2, d3, d4⟩ := words_5p hown1
        clear hown1
        go_wp2_with fail
        refine (EA.out g _ _ d1 d2 d3 (TE.out.below HB1.out) (EE.out.below HB1.out) (LE.out.below HB1.out)).mono ?_
        rintro e w2 ⟨va, rfl, hown2, hb2⟩
        have Z2 := Lib.hid (Z1.out.go hb2)
        have HB2 := Lib.hid (HB1.out.trans (hb2.mono HB1.out.size))
        have e0 := ((bcell hb2).1 g 0 hgl).trans d0
        have e4 := ((bcell hb2).1 g 4 hgl).trans d4
        have hgl2 : g < w2.heap.size := World.block_lt_of_cell? w2 ⟨g, 0, none⟩ e0
        have HO2 := Lib.hid hown2
        clear hb2 d0 d1 d2 d3 d4 Z1 HB1 hown2 hx
        go_wp2_with fail
        refine (RD.out _ (TE.out.below HB2.out) (EE.out.below HB2.out)).mono ?_
        rintro e w3 ⟨rfl, hb3⟩
        have Z3 := Lib.hid (Z2.out.go hb3)
        have HB3 := Lib.hid (HB2.out.trans (hb3.mono HB2.out.size))
        have a0 := ((bcell hb3).1 g 0 hgl2).trans e0
        rw [HN.out] at a0
        clear hb3 e0 e4 Z2
        obtain ⟨q0, q1, q2, q3, q4, f0, f1, f2, f3, f4⟩ := Z3.out
        go_wp2_with fail
        refine bodyPost_ret (v := .tuple #[.agg #[.string ⟨#[]⟩, .int .i64 0, .int .i64 0, .int .i64 0, .int .i64 0], .bool false]) (by first | (simp [results, Tryz.results19, go_sem]; done) | (simp [results, Tryz.results19, go_sem, *]; done)) rfl ⟨rfl, ?_⟩
        repeat (first | exact Below.refl _ _ | exact HB3.out | refine Below.setCell ?_ (by first | (simp; done) | omega | (simp; omega)) _ | refine Below.alloc ?_ (by first | (simp; done) | omega | (simp; omega)) _ | refine bel_drew ?_)
      | true =>
        cases b5 with
        | false =>
          rw [if_neg (by simp)]
          have Z0 : Hid (SP5 (w.alloc (.cells #[.string ⟨#[]⟩, .int .i64 0, .int .i64 0, .int .i64 0, .int .i64 0] 37)) w.heap.size ⟨#[]⟩ 0 0 0 0) := Lib.hid (SP5.new _ _ _ _ _ _ _)
          have hb0 : Hid (Below w.heap.size w (w.alloc (.cells #[.string ⟨#[]⟩, .int .i64 0, .int .i64 0, .int .i64 0, .int .i64 0] 37))) := Lib.hid ((Below.refl _ _).alloc (Nat.le_refl _) _)
          go_enter Tryz.func19, Tryz.ntmps19
          go_wp2_with fail
          refine (split_any s 32 _ hs (LE.out.below hb0.out)).mono ?_
          rintro e w1 ⟨v, rfl, hown1, hb1⟩
          obtain ⟨g, cap, rfl⟩ := Go.Joins.ownsRow_form hown1 HP.out
          have hgl := (hown1.lt g rfl).2
          have Z1 := Lib.hid (Z0.out.go hb1)
          have HB1 := Lib.hid (hb0.out.trans (hb1.mono hb0.out.size))
          rw [bs_len] at hown1 ⊢
          clear hb1 hb0 Z0
          simp only [hx, List.length_cons, List.length_nil] at hown1 ⊢
          have hcap := own_capP hown1
          have hcap2 : (4 : Int) ≤ (cap : Int) := by omega
          obtain ⟨d0, d1, d2, d3, d4⟩ := words_5p hown1
          clear hown1
          go_wp2_with fail
          refine (EA.out g _ _ d1 d2 d3 (TE.out.below HB1.out) (EE.out.below HB1.out) (LE.out.below HB1.out)).mono ?_
          rintro e w2 ⟨va, rfl, hown2, hb2⟩
          have Z2 := Lib.hid (Z1.out.go hb2)
          have HB2 := Lib.hid (HB1.out.trans (hb2.mono HB1.out.size))
          have e0 := ((bcell hb2).1 g 0 hgl).trans d0
          have e4 := ((bcell hb2).1 g 4 hgl).trans d4
          have hgl2 : g < w2.heap.size := World.block_lt_of_cell? w2 ⟨g, 0, none⟩ e0
          have HO2 := Lib.hid hown2
          clear hb2 d0 d1 d2 d3 d4 Z1 HB1 hown2 hx
          go_wp2_with fail
          refine (RD.out _ (TE.out.below HB2.out) (EE.out.below HB2.out)).mono ?_
          rintro e w3 ⟨rfl, hb3⟩
          have Z3 := Lib.hid (Z2.out.go hb3)
          have HB3 := Lib.hid (HB2.out.trans (hb3.mono HB2.out.size))
          have a0 := ((bcell hb3).1 g 0 hgl2).trans e0
          rw [HN.out] at a0
          have hown3 := ownsRow_below (HO2.out trivial) hb3
          obtain ⟨ga, ca, hva, _, hga⟩ := World.ownsRow.form hown3 (by omega)
          subst hva
          have r0 : w3.cell? ⟨ga, 0, none⟩ = some (.int .i64 y1) := by rw [hown3.cellAt 0 (by omega)]; rfl
          have r1 : w3.cell? ⟨ga, 1, none⟩ = some (.int .i64 y2) := by rw [hown3.cellAt 1 (by omega)]; rfl
          have r2 : w3.cell? ⟨ga, 2, none⟩ = some (.int .i64 y3) := by rw [hown3.cellAt 2 (by omega)]; rfl
          have hg3 : g < w3.heap.size := World.block_lt_of_cell? w3 ⟨g, 0, none⟩ a0
          have n1 : g ≠ w3.heap.size := by omega
          have n2 : ga ≠ w3.heap.size := by omega
          clear hb3 e0 e4 Z2 hown3 HO2
          obtain ⟨W4, hW4⟩ : ∃ W4, W4 = (w3.alloc (.cells #[.string ns, .int .i64 y1, .int .i64 y2, .int .i64 y3, .int .i64 y4] 37)).drew := ⟨_, rfl⟩
          have C4 : Hid (SP5 W4 w3.heap.size ns y1 y2 y3 y4) := Lib.hid (by
            have h := SP5.new w3 37 ns y1 y2 y3 y4
            rw [hW4]
            exact ⟨h.c0, h.c1, h.c2, h.c3, h.c4, h.f0, h.f1, h.f2, h.f3, h.f4⟩)
          have hb4 : Below w3.heap.size w3 W4 := by rw [hW4]; exact bel_drew ((Below.refl _ _).alloc (Nat.le_refl _) _)
          have Z4 := Lib.hid (Z3.out.go hb4)
          have HB4 := Lib.hid (HB3.out.trans (hb4.mono HB3.out.size))
          have hl4 : w.heap.size < w3.heap.size := Z3.out.inn
          have HW := Lib.hid hW4
          clear hb4 hW4
          go_wp2_with fail
          go_region
          all_goals
            obtain ⟨v0, v1, v2, v3, v4, _, _, _, _, _⟩ := C4.out
            rw [← HW.out]
            go_wp2_with fail
            refine (V.out _).mono ?_
            rintro e w5 ⟨rfl, hb5⟩
            have Z5 := Lib.hid (Z4.out.go hb5)
            have C5 := Lib.hid (C4.out.go hb5)
            have HB5 := Lib.hid (HB4.out.trans (hb5.mono HB4.out.size))
            clear hb5 v0 v1 v2 v3 v4 r0 r1 r2 a0
            obtain ⟨v0, v1, v2, v3, v4, _, _, _, _, _⟩ := C5.out
            obtain ⟨q0, q1, q2, q3, q4, f0, f1, f2, f3, f4⟩ := Z5.out
            go_wp2_with fail
            refine bodyPost_ret (v := .tuple #[.agg #[.string ⟨#[]⟩, .int .i64 0, .int .i64 0, .int .i64 0, .int .i64 0], .bool false]) (by first | (simp [results, Tryz.results19, go_sem]; done) | (simp [results, Tryz.results19, go_sem, *]; done)) rfl ⟨rfl, ?_⟩
            repeat (first | exact Below.refl _ _ | exact HB5.out | refine Below.setCell ?_ (by first | (simp; done) | omega | (simp; omega)) _ | refine Below.alloc ?_ (by first | (simp; done) | omega | (simp; omega)) _ | refine bel_drew ?_)
        | true =>
          rw [if_pos (by rfl)]
          have Z0 : Hid (SP5 (w.alloc (.cells #[.string ⟨#[]⟩, .int .i64 0, .int .i64 0, .int .i64 0, .int .i64 0] 37)) w.heap.size ⟨#[]⟩ 0 0 0 0) := Lib.hid (SP5.new _ _ _ _ _ _ _)
          have hb0 : Hid (Below w.heap.size w (w.alloc (.cells #[.string ⟨#[]⟩, .int .i64 0, .int .i64 0, .int .i64 0, .int .i64 0] 37))) := Lib.hid ((Below.refl _ _).alloc (Nat.le_refl _) _)
          go_enter Tryz.func19, Tryz.ntmps19
          go_wp2_with fail
          refine (split_any s 32 _ hs (LE.out.below hb0.out)).mono ?_
          rintro e w1 ⟨v, rfl, hown1, hb1⟩
          obtain ⟨g, cap, rfl⟩ := Go.Joins.ownsRow_form hown1 HP.out
          have hgl := (hown1.lt g rfl).2
          have Z1 := Lib.hid (Z0.out.go hb1)
          have HB1 := Lib.hid (hb0.out.trans (hb1.mono hb0.out.size))
          rw [bs_len] at hown1 ⊢
          clear hb1 hb0 Z0
          simp only [hx, List.length_cons, List.length_nil] at hown1 ⊢
          have hcap := own_capP hown1
          have hcap2 : (4 : Int) ≤ (cap : Int) := by omega
          obtain ⟨d0, d1, d2, d3, d4⟩ := words_5p hown1
          clear hown1
          go_wp2_with fail
          refine (EA.out g _ _ d1 d2 d3 (TE.out.below HB1.out) (EE.out.below HB1.out) (LE.out.below HB1.out)).mono ?_
          rintro e w2 ⟨va, rfl, hown2, hb2⟩
          have Z2 := Lib.hid (Z1.out.go hb2)
          have HB2 := Lib.hid (HB1.out.trans (hb2.mono HB1.out.size))
          have e0 := ((bcell hb2).1 g 0 hgl).trans d0
          have e4 := ((bcell hb2).1 g 4 hgl).trans d4
          have hgl2 : g < w2.heap.size := World.block_lt_of_cell? w2 ⟨g, 0, none⟩ e0
          have HO2 := Lib.hid hown2
          clear hb2 d0 d1 d2 d3 d4 Z1 HB1 hown2 hx
          go_wp2_with fail
          refine (RD.out _ (TE.out.below HB2.out) (EE.out.below HB2.out)).mono ?_
          rintro e w3 ⟨rfl, hb3⟩
          have Z3 := Lib.hid (Z2.out.go hb3)
          have HB3 := Lib.hid (HB2.out.trans (hb3.mono HB2.out.size))
          have a0 := ((bcell hb3).1 g 0 hgl2).trans e0
          rw [HN.out] at a0
          have hown3 := ownsRow_below (HO2.out trivial) hb3
          obtain ⟨ga, ca, hva, _, hga⟩ := World.ownsRow.form hown3 (by omega)
          subst hva
          have r0 : w3.cell? ⟨ga, 0, none⟩ = some (.int .i64 y1) := by rw [hown3.cellAt 0 (by omega)]; rfl
          have r1 : w3.cell? ⟨ga, 1, none⟩ = some (.int .i64 y2) := by rw [hown3.cellAt 1 (by omega)]; rfl
          have r2 : w3.cell? ⟨ga, 2, none⟩ = some (.int .i64 y3) := by rw [hown3.cellAt 2 (by omega)]; rfl
          have hg3 : g < w3.heap.size := World.block_lt_of_cell? w3 ⟨g, 0, none⟩ a0
          have n1 : g ≠ w3.heap.size := by omega
          have n2 : ga ≠ w3.heap.size := by omega
          clear hb3 e0 e4 Z2 hown3 HO2
          obtain ⟨W4, hW4⟩ : ∃ W4, W4 = (w3.alloc (.cells #[.string ns, .int .i64 y1, .int .i64 y2, .int .i64 y3, .int .i64 y4] 37)).drew := ⟨_, rfl⟩
          have C4 : Hid (SP5 W4 w3.heap.size ns y1 y2 y3 y4) := Lib.hid (by
            have h := SP5.new w3 37 ns y1 y2 y3 y4
            rw [hW4]
            exact ⟨h.c0, h.c1, h.c2, h.c3, h.c4, h.f0, h.f1, h.f2, h.f3, h.f4⟩)
          have hb4 : Below w3.heap.size w3 W4 := by rw [hW4]; exact bel_drew ((Below.refl _ _).alloc (Nat.le_refl _) _)
          have Z4 := Lib.hid (Z3.out.go hb4)
          have HB4 := Lib.hid (HB3.out.trans (hb4.mono HB3.out.size))
          have hl4 : w.heap.size < w3.heap.size := Z3.out.inn
          have HW := Lib.hid hW4
          clear hb4 hW4
          go_wp2_with fail
          go_region
          all_goals
            obtain ⟨v0, v1, v2, v3, v4, _, _, _, _, _⟩ := C4.out
            rw [← HW.out]
            go_wp2_with fail
            refine (V.out _).mono ?_
            rintro e w5 ⟨rfl, hb5⟩
            have Z5 := Lib.hid (Z4.out.go hb5)
            have C5 := Lib.hid (C4.out.go hb5)
            have HB5 := Lib.hid (HB4.out.trans (hb5.mono HB4.out.size))
            clear hb5 v0 v1 v2 v3 v4 r0 r1 r2 a0
            obtain ⟨v0, v1, v2, v3, v4, _, _, _, _, _⟩ := C5.out
            obtain ⟨q0, q1, q2, q3, q4, f0, f1, f2, f3, f4⟩ := Z5.out
            go_wp2_with fail
            refine bodyPost_ret (v := .tuple #[.agg #[.string ns, .int .i64 y1, .int .i64 y2, .int .i64 y3, .int .i64 y4], .bool true]) (by first | (simp [results, Tryz.results19, go_sem]; done) | (simp [results, Tryz.results19, go_sem, *]; done)) rfl ⟨rfl, ?_⟩
            repeat (first | exact Below.refl _ _ | exact HB5.out | refine Below.setCell ?_ (by first | (simp; done) | omega | (simp; omega)) _ | refine Below.alloc ?_ (by first | (simp; done) | omega | (simp; omega)) _ | refine bel_drew ?_)
  · rw [rpjV_len _ hl]
    have hl' : (((spl 32 s.data.toList).length : Int) == 5) = false := by simp; omega
    have hl2 : ¬ ((spl 32 s.data.toList).length : Int) = 5 := by omega
    clear PS
    have Z0 : Hid (SP5 (w.alloc (.cells #[.string ⟨#[]⟩, .int .i64 0, .int .i64 0, .int .i64 0, .int .i64 0] 37)) w.heap.size ⟨#[]⟩ 0 0 0 0) := Lib.hid (SP5.new _ _ _ _ _ _ _)
    have hb0 : Hid (Below w.heap.size w (w.alloc (.cells #[.string ⟨#[]⟩, .int .i64 0, .int .i64 0, .int .i64 0, .int .i64 0] 37))) := Lib.hid ((Below.refl _ _).alloc (Nat.le_refl _) _)
    go_enter Tryz.func19, Tryz.ntmps19
    go_wp2_with fail
    refine (split_any s 32 _ hs (LE.out.below hb0.out)).mono ?_
    rintro e w1 ⟨v, rfl, hown1, hb1⟩
    obtain ⟨g, cap, rfl⟩ := Go.Joins.ownsRow_form hown1 HP.out
    have hgl := (hown1.lt g rfl).2
    have Z1 := Lib.hid (Z0.out.go hb1)
    have HB1 := Lib.hid (hb0.out.trans (hb1.mono hb0.out.size))
    rw [bs_len] at hown1 ⊢
    clear hb1 hb0 Z0
    generalize (spl 32 s.data.toList).length = len at *
    have HO := Lib.hid hown1
    clear hown1
    obtain ⟨q0, q1, q2, q3, q4, f0, f1, f2, f3, f4⟩ := Z1.out
    go_wp2_with fail
    refine bodyPost_ret (v := .tuple #[.agg #[.string ⟨#[]⟩, .int .i64 0, .int .i64 0, .int .i64 0, .int .i64 0], .bool false]) (by first | (simp [results, Tryz.results19, go_sem]; done) | (simp [results, Tryz.results19, go_sem, *]; done)) rfl ⟨rfl, ?_⟩
    repeat (first | exact Below.refl _ _ | exact HB1.out | refine Below.setCell ?_ (by first | (simp; done) | omega | (simp; omega)) _ | refine Below.alloc ?_ (by first | (simp; done) | omega | (simp; omega)) _ | refine bel_drew ?_)
end Go.Proofs.YtlklcpnnaolbeaaGreatDoor
