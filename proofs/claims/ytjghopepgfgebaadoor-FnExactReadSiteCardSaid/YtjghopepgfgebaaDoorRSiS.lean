/-
  Sites read from texts: the contracts of ReadSite (packages spec and impl).
-/
import Derived.Test.YtjghopepgfgebaaDoorRAng
import Derived.Test.YtjghopepgfgebaaDoorList
import Derived.Test.YtjghopepgfgebaaDoorSite0
import Derived.Deep.Cut
namespace Go.Proofs.YtjghopepgfgebaaDoor
open Go.RowKit
set_option linter.unusedVariables false

/-- The number that ReadAngle returns. -/
def angC (l : List UInt8) : Int := if okA l = true then candA l else 0
/-- The site with a text. -/
def siV (l : List UInt8) : Value :=
  match spl 32 l with
  | [n, t1, t2] => if (okA t1 && (okA t2 && siteB ⟨n.toArray⟩ (angC t1) (angC t2))) = true then .tuple #[.agg #[.string ⟨n.toArray⟩, .int .i64 (angC t1), .int .i64 (angC t2)], .bool true] else .tuple #[.agg #[.string ⟨#[]⟩, .int .i64 0, .int .i64 0], .bool false]
  | _ => .tuple #[.agg #[.string ⟨#[]⟩, .int .i64 0, .int .i64 0], .bool false]
theorem siV_form (l : List UInt8) : ∃ (s : ByteArray) (a b : Int) (ok : Bool), siV l = .tuple #[.agg #[.string s, .int .i64 a, .int .i64 b], .bool ok] := by
  unfold siV
  split
  · split <;> exact ⟨_, _, _, _, rfl⟩
  · exact ⟨_, _, _, _, rfl⟩
theorem siV_len (l : List UInt8) (h : (spl 32 l).length ≠ 3) : siV l = .tuple #[.agg #[.string ⟨#[]⟩, .int .i64 0, .int .i64 0], .bool false] := by
  unfold siV
  split
  · rename_i e; rw [e] at h; simp at h
  · rfl
theorem siV_at (l n t1 t2 : List UInt8) (h : spl 32 l = [n, t1, t2]) : siV l = if (okA t1 && (okA t2 && siteB ⟨n.toArray⟩ (angC t1) (angC t2))) = true then .tuple #[.agg #[.string ⟨n.toArray⟩, .int .i64 (angC t1), .int .i64 (angC t2)], .bool true] else .tuple #[.agg #[.string ⟨#[]⟩, .int .i64 0, .int .i64 0], .bool false] := by
  unfold siV
  rw [h]
/-- A site in a block of its own, that may be written. -/
structure SZ3 (w : World) (g : Nat) (s : ByteArray) (a b : Int) : Prop where
  c0 : w.cell? ⟨g, 0, none⟩ = some (.string s)
  c1 : w.cell? ⟨g, 1, none⟩ = some (.int .i64 a)
  c2 : w.cell? ⟨g, 2, none⟩ = some (.int .i64 b)
  f0 : w.frozen? ⟨g, 0, none⟩ = false
  f1 : w.frozen? ⟨g, 1, none⟩ = false
  f2 : w.frozen? ⟨g, 2, none⟩ = false
theorem SZ3.inn {w : World} {g : Nat} {s : ByteArray} {a b : Int} (h : SZ3 w g s a b) : g < w.heap.size := World.block_lt_of_cell? w ⟨g, 0, none⟩ h.c0
theorem SZ3.go {w w' : World} {g : Nat} {s : ByteArray} {a b : Int} (h : SZ3 w g s a b) (hb : Below w.heap.size w w') : SZ3 w' g s a b := by
  obtain ⟨k1, k2⟩ := bcell hb
  have hg := h.inn
  exact ⟨(k1 g 0 hg).trans h.c0, (k1 g 1 hg).trans h.c1, (k1 g 2 hg).trans h.c2, (k2 g 0 hg).trans h.f0, (k2 g 1 hg).trans h.f1, (k2 g 2 hg).trans h.f2⟩
theorem SZ3.new (w : World) (T : TypeId) (s : ByteArray) (a b : Int) : SZ3 (w.alloc (.cells #[.string s, .int .i64 a, .int .i64 b] T)) w.heap.size s a b := ⟨by simp, by simp, by simp, by simp, by simp, by simp⟩
theorem words_3 {w : World} {B g cap : Nat} {n t u : List UInt8} (h : w.ownsRow B 9 1 (.slice (some ⟨g, 0, none⟩) 3 cap) 3 ((bs [n, t, u]).map Value.string)) : w.cell? ⟨g, 0, none⟩ = some (.string ⟨n.toArray⟩) ∧ w.cell? ⟨g, 1, none⟩ = some (.string ⟨t.toArray⟩) ∧ w.cell? ⟨g, 2, none⟩ = some (.string ⟨u.toArray⟩) :=
  ⟨by rw [h.cellAt 0 (by omega)]; rfl, by rw [h.cellAt 1 (by omega)]; rfl, by rw [h.cellAt 2 (by omega)]; rfl⟩
theorem data_ofA (t : List UInt8) : (⟨t.toArray⟩ : ByteArray).data.toList = t := by simp

set_option maxRecDepth 100000 in
set_option maxHeartbeats 4000000 in
theorem l06Read_any (s : ByteArray) (hs : s.size ≤ 1048576) (w : World) :
    Calls Tryd.prog 48 #[.string s] w fun e w' => e = .returned (siV s.data.toList) ∧ Below w.heap.size w w' := by
  have HP : Hid (0 < (bs (spl 32 s.data.toList)).length) := Lib.hid (by rw [bs_len]; exact List.length_pos_iff.2 (spl_ne 32 _))
  have PS := part_size s 32
  by_cases hl : (spl 32 s.data.toList).length = 3
  · obtain ⟨n, t1, t2, hx⟩ : ∃ n t1 t2, spl 32 s.data.toList = [n, t1, t2] := by
      generalize spl 32 s.data.toList = xs at hl
      match xs, hl with
      | [n, t1, t2], _ => exact ⟨n, t1, t2, rfl⟩
    have hns : (⟨n.toArray⟩ : ByteArray).size ≤ 1048576 := by
      have := PS 0 (by rw [hl]; omega)
      simp only [hx, List.getElem_cons_zero] at this
      omega
    have ht1 : (⟨t1.toArray⟩ : ByteArray).size ≤ 1048576 := by
      have := PS 1 (by rw [hl]; omega)
      simp only [hx, List.getElem_cons_zero, List.getElem_cons_succ] at this
      omega
    have ht2 : (⟨t2.toArray⟩ : ByteArray).size ≤ 1048576 := by
      have := PS 2 (by rw [hl]; omega)
      simp only [hx, List.getElem_cons_zero, List.getElem_cons_succ] at this
      omega
    rw [siV_at s.data.toList n t1 t2 hx]
    have RT1 : Hid (∀ w, Calls Tryd.prog 85 #[.string ⟨t1.toArray⟩] w fun e w' => e = .returned (.tuple #[.int .i64 (angC t1), .bool (okA t1)]) ∧ Below w.heap.size w w') := Lib.hid (fun w => by
      have h := l02Read_any ⟨t1.toArray⟩ ht1 w
      rw [data_ofA] at h
      exact h)
    have RT2 : Hid (∀ w, Calls Tryd.prog 85 #[.string ⟨t2.toArray⟩] w fun e w' => e = .returned (.tuple #[.int .i64 (angC t2), .bool (okA t2)]) ∧ Below w.heap.size w w') := Lib.hid (fun w => by
      have h := l02Read_any ⟨t2.toArray⟩ ht2 w
      rw [data_ofA] at h
      exact h)
    generalize angC t1 = y1 at *
    generalize angC t2 = y2 at *
    have V := Lib.hid (fun (w : World) g c0 c1 c2 => l06Ok_at g 0 ⟨n.toArray⟩ y1 y2 w c0 c1 c2)
    generalize okA t1 = b1 at *
    generalize okA t2 = b2 at *
    generalize siteB ⟨n.toArray⟩ y1 y2 = b3 at *
    obtain ⟨ns, hns2⟩ : ∃ ns : ByteArray, ⟨n.toArray⟩ = ns := ⟨_, rfl⟩
    rw [hns2] at V ⊢
    have HN := Lib.hid hns2
    clear hns2 hns ht1 ht2 PS hl
    cases b1 with
    | false =>
      rw [if_neg (by simp)]
      have Z0 : Hid (SZ3 (w.alloc (.cells #[.string ⟨#[]⟩, .int .i64 0, .int .i64 0] 38)) w.heap.size ⟨#[]⟩ 0 0) := Lib.hid (SZ3.new _ _ _ _ _)
      have hb0 : Hid (Below w.heap.size w (w.alloc (.cells #[.string ⟨#[]⟩, .int .i64 0, .int .i64 0] 38))) := Lib.hid ((Below.refl _ _).alloc (Nat.le_refl _) _)
      go_enter Tryd.func48, Tryd.ntmps48
      go_wp2_with fail
      refine (l01Split_any s 32 32 rfl _ hs).mono ?_
      rintro e w1 ⟨v, rfl, hown1, hb1⟩
      obtain ⟨g, cap, rfl⟩ := Go.Joins.ownsRow_form hown1 HP.out
      have hgl := (hown1.lt g rfl).2
      have Z1 := Lib.hid (Z0.out.go hb1)
      have HB1 := Lib.hid (hb0.out.trans (hb1.mono hb0.out.size))
      rw [bs_len] at hown1 ⊢
      clear hb1 hb0 Z0
      simp only [hx, List.length_cons, List.length_nil] at hown1 ⊢
      obtain ⟨d0, d1, d2⟩ := words_3 hown1
      clear hown1
      go_wp2_with fail
      refine (RT1.out _ ).mono ?_
      rintro e w2 ⟨rfl, hb2⟩
      have Z2 := Lib.hid (Z1.out.go hb2)
      have HB2 := Lib.hid (HB1.out.trans (hb2.mono HB1.out.size))
      have e0 := ((bcell hb2).1 g 0 hgl).trans d0
      have e2 := ((bcell hb2).1 g 2 hgl).trans d2
      have hgl2 : g < w2.heap.size := World.block_lt_of_cell? w2 ⟨g, 0, none⟩ e0
      clear hb2 d0 d1 d2 Z1 HB1
      go_wp2_with fail
      refine (RT2.out _ ).mono ?_
      rintro e w3 ⟨rfl, hb3⟩
      have Z3 := Lib.hid (Z2.out.go hb3)
      have HB3 := Lib.hid (HB2.out.trans (hb3.mono HB2.out.size))
      have e3 := ((bcell hb3).1 g 0 hgl2).trans e0
      rw [HN.out] at e3
      clear hb3 e0 e2 Z2 HB2 hx
      obtain ⟨W4, hW4⟩ : ∃ W4, W4 = w3.alloc (.cells #[.string ns, .int .i64 y1, .int .i64 y2] 38) := ⟨_, rfl⟩
      have C4 : Hid (SZ3 W4 w3.heap.size ns y1 y2) := Lib.hid (by rw [hW4]; exact SZ3.new _ _ _ _ _)
      have hb4 : Below w3.heap.size w3 W4 := by rw [hW4]; exact (Below.refl _ _).alloc (Nat.le_refl _) _
      have Z4 := Lib.hid (Z3.out.go hb4)
      have HB4 := Lib.hid (HB3.out.trans (hb4.mono HB3.out.size))
      have hl4 : w.heap.size < w3.heap.size := Z3.out.inn
      have HW := Lib.hid hW4
      clear hb4 hW4
      go_upto_region 7 with fail
      rw [← HW.out]
      clear HW e3
      obtain ⟨v0, v1, v2, _, _, _⟩ := C4.out
      obtain ⟨q0, q1, q2, f0, f1, f2⟩ := Z4.out
      go_wp2_with fail
      refine bodyPost_ret (v := .tuple #[.agg #[.string ⟨#[]⟩, .int .i64 0, .int .i64 0], .bool false]) (by first | (simp [results, Tryd.results48, go_sem]; done) | (simp [results, Tryd.results48, go_sem, *]; done)) rfl ⟨rfl, ?_⟩
      repeat (first | exact Below.refl _ _ | exact HB4.out | refine Below.setCell ?_ (by first | (simp; done) | omega | (simp; omega)) _ | refine Below.alloc ?_ (by first | (simp; done) | omega | (simp; omega)) _ | refine bel_drew ?_)
    | true =>
      cases b2 with
      | false =>
        rw [if_neg (by simp)]
        have Z0 : Hid (SZ3 (w.alloc (.cells #[.string ⟨#[]⟩, .int .i64 0, .int .i64 0] 38)) w.heap.size ⟨#[]⟩ 0 0) := Lib.hid (SZ3.new _ _ _ _ _)
        have hb0 : Hid (Below w.heap.size w (w.alloc (.cells #[.string ⟨#[]⟩, .int .i64 0, .int .i64 0] 38))) := Lib.hid ((Below.refl _ _).alloc (Nat.le_refl _) _)
        go_enter Tryd.func48, Tryd.ntmps48
        go_wp2_with fail
        refine (l01Split_any s 32 32 rfl _ hs).mono ?_
        rintro e w1 ⟨v, rfl, hown1, hb1⟩
        obtain ⟨g, cap, rfl⟩ := Go.Joins.ownsRow_form hown1 HP.out
        have hgl := (hown1.lt g rfl).2
        have Z1 := Lib.hid (Z0.out.go hb1)
        have HB1 := Lib.hid (hb0.out.trans (hb1.mono hb0.out.size))
        rw [bs_len] at hown1 ⊢
        clear hb1 hb0 Z0
        simp only [hx, List.length_cons, List.length_nil] at hown1 ⊢
        obtain ⟨d0, d1, d2⟩ := words_3 hown1
        clear hown1
        go_wp2_with fail
        refine (RT1.out _ ).mono ?_
        rintro e w2 ⟨rfl, hb2⟩
        have Z2 := Lib.hid (Z1.out.go hb2)
        have HB2 := Lib.hid (HB1.out.trans (hb2.mono HB1.out.size))
        have e0 := ((bcell hb2).1 g 0 hgl).trans d0
        have e2 := ((bcell hb2).1 g 2 hgl).trans d2
        have hgl2 : g < w2.heap.size := World.block_lt_of_cell? w2 ⟨g, 0, none⟩ e0
        clear hb2 d0 d1 d2 Z1 HB1
        go_wp2_with fail
        refine (RT2.out _ ).mono ?_
        rintro e w3 ⟨rfl, hb3⟩
        have Z3 := Lib.hid (Z2.out.go hb3)
        have HB3 := Lib.hid (HB2.out.trans (hb3.mono HB2.out.size))
        have e3 := ((bcell hb3).1 g 0 hgl2).trans e0
        rw [HN.out] at e3
        clear hb3 e0 e2 Z2 HB2 hx
        obtain ⟨W4, hW4⟩ : ∃ W4, W4 = w3.alloc (.cells #[.string ns, .int .i64 y1, .int .i64 y2] 38) := ⟨_, rfl⟩
        have C4 : Hid (SZ3 W4 w3.heap.size ns y1 y2) := Lib.hid (by rw [hW4]; exact SZ3.new _ _ _ _ _)
        have hb4 : Below w3.heap.size w3 W4 := by rw [hW4]; exact (Below.refl _ _).alloc (Nat.le_refl _) _
        have Z4 := Lib.hid (Z3.out.go hb4)
        have HB4 := Lib.hid (HB3.out.trans (hb4.mono HB3.out.size))
        have hl4 : w.heap.size < w3.heap.size := Z3.out.inn
        have HW := Lib.hid hW4
        clear hb4 hW4
        go_upto_region 7 with fail
        rw [← HW.out]
        clear HW e3
        obtain ⟨v0, v1, v2, _, _, _⟩ := C4.out
        obtain ⟨q0, q1, q2, f0, f1, f2⟩ := Z4.out
        go_wp2_with fail
        refine bodyPost_ret (v := .tuple #[.agg #[.string ⟨#[]⟩, .int .i64 0, .int .i64 0], .bool false]) (by first | (simp [results, Tryd.results48, go_sem]; done) | (simp [results, Tryd.results48, go_sem, *]; done)) rfl ⟨rfl, ?_⟩
        repeat (first | exact Below.refl _ _ | exact HB4.out | refine Below.setCell ?_ (by first | (simp; done) | omega | (simp; omega)) _ | refine Below.alloc ?_ (by first | (simp; done) | omega | (simp; omega)) _ | refine bel_drew ?_)
      | true =>
        cases b3 with
        | false =>
          rw [if_neg (by simp)]
          have Z0 : Hid (SZ3 (w.alloc (.cells #[.string ⟨#[]⟩, .int .i64 0, .int .i64 0] 38)) w.heap.size ⟨#[]⟩ 0 0) := Lib.hid (SZ3.new _ _ _ _ _)
          have hb0 : Hid (Below w.heap.size w (w.alloc (.cells #[.string ⟨#[]⟩, .int .i64 0, .int .i64 0] 38))) := Lib.hid ((Below.refl _ _).alloc (Nat.le_refl _) _)
          go_enter Tryd.func48, Tryd.ntmps48
          go_wp2_with fail
          refine (l01Split_any s 32 32 rfl _ hs).mono ?_
          rintro e w1 ⟨v, rfl, hown1, hb1⟩
          obtain ⟨g, cap, rfl⟩ := Go.Joins.ownsRow_form hown1 HP.out
          have hgl := (hown1.lt g rfl).2
          have Z1 := Lib.hid (Z0.out.go hb1)
          have HB1 := Lib.hid (hb0.out.trans (hb1.mono hb0.out.size))
          rw [bs_len] at hown1 ⊢
          clear hb1 hb0 Z0
          simp only [hx, List.length_cons, List.length_nil] at hown1 ⊢
          obtain ⟨d0, d1, d2⟩ := words_3 hown1
          clear hown1
          go_wp2_with fail
          refine (RT1.out _ ).mono ?_
          rintro e w2 ⟨rfl, hb2⟩
          have Z2 := Lib.hid (Z1.out.go hb2)
          have HB2 := Lib.hid (HB1.out.trans (hb2.mono HB1.out.size))
          have e0 := ((bcell hb2).1 g 0 hgl).trans d0
          have e2 := ((bcell hb2).1 g 2 hgl).trans d2
          have hgl2 : g < w2.heap.size := World.block_lt_of_cell? w2 ⟨g, 0, none⟩ e0
          clear hb2 d0 d1 d2 Z1 HB1
          go_wp2_with fail
          refine (RT2.out _ ).mono ?_
          rintro e w3 ⟨rfl, hb3⟩
          have Z3 := Lib.hid (Z2.out.go hb3)
          have HB3 := Lib.hid (HB2.out.trans (hb3.mono HB2.out.size))
          have e3 := ((bcell hb3).1 g 0 hgl2).trans e0
          rw [HN.out] at e3
          clear hb3 e0 e2 Z2 HB2 hx
          obtain ⟨W4, hW4⟩ : ∃ W4, W4 = w3.alloc (.cells #[.string ns, .int .i64 y1, .int .i64 y2] 38) := ⟨_, rfl⟩
          have C4 : Hid (SZ3 W4 w3.heap.size ns y1 y2) := Lib.hid (by rw [hW4]; exact SZ3.new _ _ _ _ _)
          have hb4 : Below w3.heap.size w3 W4 := by rw [hW4]; exact (Below.refl _ _).alloc (Nat.le_refl _) _
          have Z4 := Lib.hid (Z3.out.go hb4)
          have HB4 := Lib.hid (HB3.out.trans (hb4.mono HB3.out.size))
          have hl4 : w.heap.size < w3.heap.size := Z3.out.inn
          have HW := Lib.hid hW4
          clear hb4 hW4
          go_upto_region 7 with fail
          rw [← HW.out]
          clear HW e3
          obtain ⟨v0, v1, v2, _, _, _⟩ := C4.out
          obtain ⟨q0, q1, q2, f0, f1, f2⟩ := Z4.out
          go_wp2_with fail
          refine (V.out _ _ v0 v1 v2).mono ?_
          rintro e w5 ⟨rfl, rfl⟩
          go_wp2_with fail
          refine bodyPost_ret (v := .tuple #[.agg #[.string ⟨#[]⟩, .int .i64 0, .int .i64 0], .bool false]) (by first | (simp [results, Tryd.results48, go_sem]; done) | (simp [results, Tryd.results48, go_sem, *]; done)) rfl ⟨rfl, ?_⟩
          repeat (first | exact Below.refl _ _ | exact HB4.out | refine Below.setCell ?_ (by first | (simp; done) | omega | (simp; omega)) _ | refine Below.alloc ?_ (by first | (simp; done) | omega | (simp; omega)) _ | refine bel_drew ?_)
        | true =>
          rw [if_pos (by rfl)]
          have Z0 : Hid (SZ3 (w.alloc (.cells #[.string ⟨#[]⟩, .int .i64 0, .int .i64 0] 38)) w.heap.size ⟨#[]⟩ 0 0) := Lib.hid (SZ3.new _ _ _ _ _)
          have hb0 : Hid (Below w.heap.size w (w.alloc (.cells #[.string ⟨#[]⟩, .int .i64 0, .int .i64 0] 38))) := Lib.hid ((Below.refl _ _).alloc (Nat.le_refl _) _)
          go_enter Tryd.func48, Tryd.ntmps48
          go_wp2_with fail
          refine (l01Split_any s 32 32 rfl _ hs).mono ?_
          rintro e w1 ⟨v, rfl, hown1, hb1⟩
          obtain ⟨g, cap, rfl⟩ := Go.Joins.ownsRow_form hown1 HP.out
          have hgl := (hown1.lt g rfl).2
          have Z1 := Lib.hid (Z0.out.go hb1)
          have HB1 := Lib.hid (hb0.out.trans (hb1.mono hb0.out.size))
          rw [bs_len] at hown1 ⊢
          clear hb1 hb0 Z0
          simp only [hx, List.length_cons, List.length_nil] at hown1 ⊢
          obtain ⟨d0, d1, d2⟩ := words_3 hown1
          clear hown1
          go_wp2_with fail
          refine (RT1.out _ ).mono ?_
          rintro e w2 ⟨rfl, hb2⟩
          have Z2 := Lib.hid (Z1.out.go hb2)
          have HB2 := Lib.hid (HB1.out.trans (hb2.mono HB1.out.size))
          have e0 := ((bcell hb2).1 g 0 hgl).trans d0
          have e2 := ((bcell hb2).1 g 2 hgl).trans d2
          have hgl2 : g < w2.heap.size := World.block_lt_of_cell? w2 ⟨g, 0, none⟩ e0
          clear hb2 d0 d1 d2 Z1 HB1
          go_wp2_with fail
          refine (RT2.out _ ).mono ?_
          rintro e w3 ⟨rfl, hb3⟩
          have Z3 := Lib.hid (Z2.out.go hb3)
          have HB3 := Lib.hid (HB2.out.trans (hb3.mono HB2.out.size))
          have e3 := ((bcell hb3).1 g 0 hgl2).trans e0
          rw [HN.out] at e3
          clear hb3 e0 e2 Z2 HB2 hx
          obtain ⟨W4, hW4⟩ : ∃ W4, W4 = w3.alloc (.cells #[.string ns, .int .i64 y1, .int .i64 y2] 38) := ⟨_, rfl⟩
          have C4 : Hid (SZ3 W4 w3.heap.size ns y1 y2) := Lib.hid (by rw [hW4]; exact SZ3.new _ _ _ _ _)
          have hb4 : Below w3.heap.size w3 W4 := by rw [hW4]; exact (Below.refl _ _).alloc (Nat.le_refl _) _
          have Z4 := Lib.hid (Z3.out.go hb4)
          have HB4 := Lib.hid (HB3.out.trans (hb4.mono HB3.out.size))
          have hl4 : w.heap.size < w3.heap.size := Z3.out.inn
          have HW := Lib.hid hW4
          clear hb4 hW4
          go_upto_region 7 with fail
          rw [← HW.out]
          clear HW e3
          obtain ⟨v0, v1, v2, _, _, _⟩ := C4.out
          obtain ⟨q0, q1, q2, f0, f1, f2⟩ := Z4.out
          go_wp2_with fail
          refine (V.out _ _ v0 v1 v2).mono ?_
          rintro e w5 ⟨rfl, rfl⟩
          go_wp2_with fail
          refine bodyPost_ret (v := .tuple #[.agg #[.string ns, .int .i64 y1, .int .i64 y2], .bool true]) (by first | (simp [results, Tryd.results48, go_sem]; done) | (simp [results, Tryd.results48, go_sem, *]; done)) rfl ⟨rfl, ?_⟩
          repeat (first | exact Below.refl _ _ | exact HB4.out | refine Below.setCell ?_ (by first | (simp; done) | omega | (simp; omega)) _ | refine Below.alloc ?_ (by first | (simp; done) | omega | (simp; omega)) _ | refine bel_drew ?_)
  · rw [siV_len _ hl]
    have hl' : (((spl 32 s.data.toList).length : Int) == 3) = false := by simp; omega
    have hl2 : ¬ ((spl 32 s.data.toList).length : Int) = 3 := by omega
    clear PS
    have Z0 : Hid (SZ3 (w.alloc (.cells #[.string ⟨#[]⟩, .int .i64 0, .int .i64 0] 38)) w.heap.size ⟨#[]⟩ 0 0) := Lib.hid (SZ3.new _ _ _ _ _)
    have hb0 : Hid (Below w.heap.size w (w.alloc (.cells #[.string ⟨#[]⟩, .int .i64 0, .int .i64 0] 38))) := Lib.hid ((Below.refl _ _).alloc (Nat.le_refl _) _)
    go_enter Tryd.func48, Tryd.ntmps48
    go_wp2_with fail
    refine (l01Split_any s 32 32 rfl _ hs).mono ?_
    rintro e w1 ⟨v, rfl, hown1, hb1⟩
    obtain ⟨g, cap, rfl⟩ := Go.Joins.ownsRow_form hown1 HP.out
    have hgl := (hown1.lt g rfl).2
    have Z1 := Lib.hid (Z0.out.go hb1)
    have HB1 := Lib.hid (hb0.out.trans (hb1.mono hb0.out.size))
    rw [bs_len] at hown1 ⊢
    clear hb1 hb0 Z0
    generalize (spl 32 s.data.toList).length = len at *
    have HO := Lib.hid hown1
    clear hown1
    obtain ⟨q0, q1, q2, f0, f1, f2⟩ := Z1.out
    go_wp2_with fail
    refine bodyPost_ret (v := .tuple #[.agg #[.string ⟨#[]⟩, .int .i64 0, .int .i64 0], .bool false]) (by first | (simp [results, Tryd.results48, go_sem]; done) | (simp [results, Tryd.results48, go_sem, *]; done)) rfl ⟨rfl, ?_⟩
    repeat (first | exact Below.refl _ _ | exact HB1.out | refine Below.setCell ?_ (by first | (simp; done) | omega | (simp; omega)) _ | refine Below.alloc ?_ (by first | (simp; done) | omega | (simp; omega)) _ | refine bel_drew ?_)

set_option maxHeartbeats 400000 in
theorem specRSite_any (s : ByteArray) (hs : s.size ≤ 1048576) (w : World) :
    Calls Tryd.prog 16 #[.string s] w fun e w' => e = .returned (siV s.data.toList) ∧ Below w.heap.size w w' := by
  have F := Lib.hid (fun w => l06Read_any s hs w)
  obtain ⟨x, y, z, ok, hz⟩ := siV_form s.data.toList
  rw [hz] at F ⊢
  clear hz
  have Z0 : Hid (SZ3 (w.alloc (.cells #[.string ⟨#[]⟩, .int .i64 0, .int .i64 0] 38)) w.heap.size ⟨#[]⟩ 0 0) := Lib.hid (SZ3.new _ _ _ _ _)
  have hb0 : Hid (Below w.heap.size w (w.alloc (.cells #[.string ⟨#[]⟩, .int .i64 0, .int .i64 0] 38))) := Lib.hid ((Below.refl _ _).alloc (Nat.le_refl _) _)
  go_enter Tryd.func16, Tryd.ntmps16
  go_wp2_with fail
  refine (F.out _).mono ?_
  rintro e w1 ⟨rfl, hb⟩
  have Z1 := Lib.hid (Z0.out.go hb)
  have HB := Lib.hid (hb0.out.trans (hb.mono hb0.out.size))
  clear hb Z0 hb0
  obtain ⟨q0, q1, q2, f0, f1, f2⟩ := Z1.out
  go_wp2_with fail
  refine bodyPost_ret (v := .tuple #[.agg #[.string x, .int .i64 y, .int .i64 z], .bool ok]) (by first | (simp [results, Tryd.results16, go_sem]; done) | (simp [results, Tryd.results16, go_sem, *]; done)) rfl ⟨rfl, ?_⟩
  repeat (first | exact Below.refl _ _ | exact HB.out | refine Below.setCell ?_ (by first | (simp; done) | omega | (simp; omega)) _ | refine Below.alloc ?_ (by first | (simp; done) | omega | (simp; omega)) _ | refine bel_drew ?_)
end Go.Proofs.YtjghopepgfgebaaDoor
