/-
  Planets read from texts: the contracts of ReadPlanet (packages spec and impl).
-/
import Derived.Test.YtkfhjmkodcahpaaDoorPTxt7
import Derived.Deep.Cut
namespace Go.Proofs.YtkfhjmkodcahpaaDoor
open Go.RowKit
set_option linter.unusedVariables false

/-- The planet with a text. -/
def rpV (l : List UInt8) : Value :=
  match spl 32 l with
  | [n, t] => match listR t with
    | some [a, b, c] => if planetB ⟨n.toArray⟩ a b c = true then .tuple #[.agg #[.string ⟨n.toArray⟩, .int .i64 a, .int .i64 b, .int .i64 c], .bool true] else .tuple #[.agg #[.string ⟨#[]⟩, .int .i64 0, .int .i64 0, .int .i64 0], .bool false]
    | _ => .tuple #[.agg #[.string ⟨#[]⟩, .int .i64 0, .int .i64 0, .int .i64 0], .bool false]
  | _ => .tuple #[.agg #[.string ⟨#[]⟩, .int .i64 0, .int .i64 0, .int .i64 0], .bool false]
theorem rpV_form (l : List UInt8) : ∃ (s : ByteArray) (a b c : Int) (ok : Bool), rpV l = .tuple #[.agg #[.string s, .int .i64 a, .int .i64 b, .int .i64 c], .bool ok] := by
  unfold rpV
  split
  · split
    · split <;> exact ⟨_, _, _, _, _, rfl⟩
    · exact ⟨_, _, _, _, _, rfl⟩
  · exact ⟨_, _, _, _, _, rfl⟩
theorem rpV_len (l : List UInt8) (h : (spl 32 l).length ≠ 2) : rpV l = .tuple #[.agg #[.string ⟨#[]⟩, .int .i64 0, .int .i64 0, .int .i64 0], .bool false] := by
  unfold rpV
  split
  · rename_i e; rw [e] at h; simp at h
  · rfl
theorem rpV_bad (l n t : List UInt8) (h : spl 32 l = [n, t]) (k : ∀ a b c, listR t ≠ some [a, b, c]) : rpV l = .tuple #[.agg #[.string ⟨#[]⟩, .int .i64 0, .int .i64 0, .int .i64 0], .bool false] := by
  unfold rpV
  rw [h]
  split
  · rename_i n' t' e
    cases e
    split
    · rename_i e; exact absurd e (k _ _ _)
    · rfl
  · rename_i e; exact absurd rfl (e _ _)
theorem rpV_at (l n t : List UInt8) (a b c : Int) (h : spl 32 l = [n, t]) (k : listR t = some [a, b, c]) : rpV l = if planetB ⟨n.toArray⟩ a b c = true then .tuple #[.agg #[.string ⟨n.toArray⟩, .int .i64 a, .int .i64 b, .int .i64 c], .bool true] else .tuple #[.agg #[.string ⟨#[]⟩, .int .i64 0, .int .i64 0, .int .i64 0], .bool false] := by
  unfold rpV
  rw [h]
  split
  · rename_i n' t' e
    cases e
    rw [k]
  · rename_i e; exact absurd rfl (e _ _)
/-- A planet in a block of its own, that may be written. -/
structure PZ (w : World) (g : Nat) (s : ByteArray) (a b c : Int) : Prop where
  c0 : w.cell? ⟨g, 0, none⟩ = some (.string s)
  c1 : w.cell? ⟨g, 1, none⟩ = some (.int .i64 a)
  c2 : w.cell? ⟨g, 2, none⟩ = some (.int .i64 b)
  c3 : w.cell? ⟨g, 3, none⟩ = some (.int .i64 c)
  f0 : w.frozen? ⟨g, 0, none⟩ = false
  f1 : w.frozen? ⟨g, 1, none⟩ = false
  f2 : w.frozen? ⟨g, 2, none⟩ = false
  f3 : w.frozen? ⟨g, 3, none⟩ = false
theorem PZ.inn {w : World} {g : Nat} {s : ByteArray} {a b c : Int} (h : PZ w g s a b c) : g < w.heap.size := World.block_lt_of_cell? w ⟨g, 0, none⟩ h.c0
theorem PZ.go {w w' : World} {g : Nat} {s : ByteArray} {a b c : Int} (h : PZ w g s a b c) (hb : Below w.heap.size w w') : PZ w' g s a b c := by
  obtain ⟨k1, k2⟩ := bcell hb
  have hg := h.inn
  exact ⟨(k1 g 0 hg).trans h.c0, (k1 g 1 hg).trans h.c1, (k1 g 2 hg).trans h.c2, (k1 g 3 hg).trans h.c3, (k2 g 0 hg).trans h.f0, (k2 g 1 hg).trans h.f1, (k2 g 2 hg).trans h.f2, (k2 g 3 hg).trans h.f3⟩
theorem PZ.new (w : World) (T : TypeId) (s : ByteArray) (a b c : Int) : PZ (w.alloc (.cells #[.string s, .int .i64 a, .int .i64 b, .int .i64 c] T)) w.heap.size s a b c := ⟨by simp, by simp, by simp, by simp, by simp, by simp, by simp, by simp⟩
theorem PZ.drew {w : World} {g : Nat} {s : ByteArray} {a b c : Int} (h : PZ w g s a b c) : PZ w.drew g s a b c := ⟨h.c0, h.c1, h.c2, h.c3, h.f0, h.f1, h.f2, h.f3⟩
theorem data_of (t : List UInt8) : (⟨t.toArray⟩ : ByteArray).data.toList = t := by simp
theorem words_at {w : World} {B g cap : Nat} {n t : List UInt8} (h : w.ownsRow B 9 1 (.slice (some ⟨g, 0, none⟩) 2 cap) 2 ((bs [n, t]).map Value.string)) : w.cell? ⟨g, 0, none⟩ = some (.string ⟨n.toArray⟩) ∧ w.cell? ⟨g, 1, none⟩ = some (.string ⟨t.toArray⟩) :=
  ⟨by rw [h.cellAt 0 (by omega)]; rfl, by rw [h.cellAt 1 (by omega)]; rfl⟩
theorem nums_at {w : World} {B g cap : Nat} {a b c : Int} (h : w.ownsRow B 2 1 (.slice (some ⟨g, 0, none⟩) 3 cap) 3 ([a, b, c].map (Value.int .i64))) : w.cell? ⟨g, 0, none⟩ = some (.int .i64 a) ∧ w.cell? ⟨g, 1, none⟩ = some (.int .i64 b) ∧ w.cell? ⟨g, 2, none⟩ = some (.int .i64 c) :=
  ⟨by rw [h.cellAt 0 (by omega)]; rfl, by rw [h.cellAt 1 (by omega)]; rfl, by rw [h.cellAt 2 (by omega)]; rfl⟩
theorem keepW {w W W' : World} {g h : Nat} {v u0 u1 u2 : Value} (k : W.cell? ⟨g, 0, none⟩ = some v ∧ W.cell? ⟨h, 0, none⟩ = some u0 ∧ W.cell? ⟨h, 1, none⟩ = some u1 ∧ W.cell? ⟨h, 2, none⟩ = some u2 ∧ Below w.heap.size w W) (hb : Below W.heap.size W W') :
    W'.cell? ⟨g, 0, none⟩ = some v ∧ W'.cell? ⟨h, 0, none⟩ = some u0 ∧ W'.cell? ⟨h, 1, none⟩ = some u1 ∧ W'.cell? ⟨h, 2, none⟩ = some u2 ∧ Below w.heap.size w W' := by
  obtain ⟨h0, h1, h2, h3, hB⟩ := k
  have l0 := World.block_lt_of_cell? W ⟨g, 0, none⟩ h0
  have l1 := World.block_lt_of_cell? W ⟨h, 0, none⟩ h1
  obtain ⟨c, _⟩ := bcell hb
  exact ⟨(c _ _ l0).trans h0, (c _ _ l1).trans h1, (c _ _ l1).trans h2, (c _ _ l1).trans h3, hB.trans (hb.mono hB.size)⟩

set_option maxRecDepth 100000 in
set_option maxHeartbeats 4000000 in
theorem specRP_any (s : ByteArray) (hs : s.size ≤ 1048576) (w : World) :
    Calls Tryd.prog 5 #[.string s] w fun e w' => e = .returned (rpV s.data.toList) ∧ Below w.heap.size w w' := by
  have HP : Hid (0 < (bs (spl 32 s.data.toList)).length) := Lib.hid (by rw [bs_len]; exact List.length_pos_iff.2 (spl_ne 32 _))
  have PS := part_size s 32
  by_cases hl : (spl 32 s.data.toList).length = 2
  · obtain ⟨n, t, hx⟩ : ∃ n t, spl 32 s.data.toList = [n, t] := by
      generalize spl 32 s.data.toList = xs at hl
      match xs, hl with
      | [n, t], _ => exact ⟨n, t, rfl⟩
    have hns : (⟨n.toArray⟩ : ByteArray).size ≤ 1048576 := by
      have := PS 0 (by rw [hl]; omega)
      simp only [hx, List.getElem_cons_zero] at this
      omega
    have hts : (⟨t.toArray⟩ : ByteArray).size ≤ 1048576 := by
      have := PS 1 (by rw [hl]; omega)
      simp only [hx, List.getElem_cons_zero, List.getElem_cons_succ] at this
      omega
    have RB := rpV_bad s.data.toList n t hx
    have RA := fun a b c => rpV_at s.data.toList n t a b c hx
    clear PS hl
    cases hr : listR t with
    | none =>
      rw [RB (by rw [hr]; intro a b c h; cases h)]
      clear RA RB
      have Z0 : Hid (PZ (w.alloc (.cells #[.string ⟨#[]⟩, .int .i64 0, .int .i64 0, .int .i64 0] 23)) w.heap.size ⟨#[]⟩ 0 0 0) := Lib.hid (PZ.new _ _ _ _ _ _)
      have hb0 : Hid (Below w.heap.size w (w.alloc (.cells #[.string ⟨#[]⟩, .int .i64 0, .int .i64 0, .int .i64 0] 23))) := Lib.hid ((Below.refl _ _).alloc (Nat.le_refl _) _)
      go_enter Tryd.func5, Tryd.ntmps5
      go_wp2_with fail
      refine (l01Split_any s 32 32 rfl _ hs).mono ?_
      rintro e w1 ⟨v, rfl, hown1, hb1⟩
      obtain ⟨g, cap, rfl⟩ := Go.Joins.ownsRow_form hown1 HP.out
      have hgl := (hown1.lt g rfl).2
      have Z1 := Lib.hid (Z0.out.go hb1)
      have HB1 := Lib.hid (hb0.out.trans (hb1.mono hb0.out.size))
      rw [bs_len] at hown1 ⊢
      clear hb1 hb0 Z0
      simp only [hx, List.length_cons, List.length_nil] at hown1 ⊢
      obtain ⟨d0, d1⟩ := words_at hown1
      clear hown1
      go_wp2_with fail
      refine (specList_any ⟨t.toArray⟩ w1 hts).mono ?_
      rintro e w2 ⟨v2, rfl, hown2, hb2⟩
      rw [data_of, hr] at hown2 ⊢
      have Z2 := Lib.hid (Z1.out.go hb2)
      have HB2 := Lib.hid (HB1.out.trans (hb2.mono HB1.out.size))
      have e0 := ((bcell hb2).1 g 0 hgl).trans d0
      clear hb2 d0 d1 Z1 HB1
      simp only [Option.isSome_none, Option.getD_none, List.map_nil, List.length_nil] at hown2 ⊢
      have HO := Lib.hid hown2
      clear hown2
      obtain ⟨q0, q1, q2, q3, f0, f1, f2, f3⟩ := Z2.out
      go_wp2_with fail
      refine bodyPost_ret (v := .tuple #[.agg #[.string ⟨#[]⟩, .int .i64 0, .int .i64 0, .int .i64 0], .bool false]) (by first | (simp [results, Tryd.results5, go_sem]; done) | (simp [results, Tryd.results5, go_sem, *]; done)) rfl ⟨rfl, ?_⟩
      repeat (first | exact Below.refl _ _ | exact HB2.out | refine Below.setCell ?_ (by first | (simp; done) | omega | (simp; omega)) _ | refine Below.alloc ?_ (by first | (simp; done) | omega | (simp; omega)) _ | refine bel_drew ?_)
    | some zs =>
      by_cases hl : zs.length = 3
      · obtain ⟨a, b, c, rfl⟩ : ∃ a b c, zs = [a, b, c] := by
          match zs, hl with
          | [a, b, c], _ => exact ⟨a, b, c, rfl⟩
        rw [RA a b c hr]
        clear RA RB hl
        have V := Lib.hid (fun (w : World) g c0 c1 c2 c3 => l07One_at g 0 ⟨n.toArray⟩ a b c w c0 c1 c2 c3)
        have hok : planetB ⟨n.toArray⟩ a b c = true ∨ planetB ⟨n.toArray⟩ a b c = false := by cases planetB ⟨n.toArray⟩ a b c <;> simp
        rcases hok with hv | hv
        · rw [hv] at V
          rw [hv]
          simp only [if_true]
          clear hv
          obtain ⟨ns, hns2⟩ : ∃ ns : ByteArray, ns = ⟨n.toArray⟩ := ⟨_, rfl⟩
          rw [← hns2] at V ⊢
          have NS := Lib.hid hns2
          clear hns2
          have Z0 : Hid (PZ (w.alloc (.cells #[.string ⟨#[]⟩, .int .i64 0, .int .i64 0, .int .i64 0] 23)) w.heap.size ⟨#[]⟩ 0 0 0) := Lib.hid (PZ.new _ _ _ _ _ _)
          have hb0 : Hid (Below w.heap.size w (w.alloc (.cells #[.string ⟨#[]⟩, .int .i64 0, .int .i64 0, .int .i64 0] 23))) := Lib.hid ((Below.refl _ _).alloc (Nat.le_refl _) _)
          go_enter Tryd.func5, Tryd.ntmps5
          go_wp2_with fail
          refine (l01Split_any s 32 32 rfl _ hs).mono ?_
          rintro e w1 ⟨v, rfl, hown1, hb1⟩
          obtain ⟨g, cap, rfl⟩ := Go.Joins.ownsRow_form hown1 HP.out
          have hgl := (hown1.lt g rfl).2
          have Z1 := Lib.hid (Z0.out.go hb1)
          have HB1 := Lib.hid (hb0.out.trans (hb1.mono hb0.out.size))
          rw [bs_len] at hown1 ⊢
          clear hb1 hb0 Z0
          simp only [hx, List.length_cons, List.length_nil] at hown1 ⊢
          obtain ⟨d0, d1⟩ := words_at hown1
          clear hown1
          go_wp2_with fail
          refine (specList_any ⟨t.toArray⟩ w1 hts).mono ?_
          rintro e w2 ⟨v2, rfl, hown2, hb2⟩
          rw [data_of, hr] at hown2 ⊢
          have Z2 := Lib.hid (Z1.out.go hb2)
          have HB2 := Lib.hid (HB1.out.trans (hb2.mono HB1.out.size))
          have e0 := ((bcell hb2).1 g 0 hgl).trans d0
          clear hb2 d0 d1 Z1 HB1
          simp only [Option.isSome_some, Option.getD_some] at hown2 ⊢
          obtain ⟨gg, cap2, rfl⟩ := Go.Joins.ownsRow_form hown2 (by simp)
          obtain ⟨m0, m1, m2⟩ := nums_at hown2
          clear hown2 hr hx
          rw [← NS.out] at e0
          have KK : Hid (w2.cell? ⟨g, 0, none⟩ = some (.string ns) ∧ w2.cell? ⟨gg, 0, none⟩ = some (.int .i64 a) ∧ w2.cell? ⟨gg, 1, none⟩ = some (.int .i64 b) ∧ w2.cell? ⟨gg, 2, none⟩ = some (.int .i64 c) ∧ Below w2.heap.size w2 w2) := Lib.hid ⟨e0, m0, m1, m2, Below.refl _ _⟩
          go_upto_region 7 with fail
          go_cut [7] from 8 (fun s7 wx => ∃ r : Nat, s7 = .pointer (some ⟨r, 0, none⟩) ∧ Hid (PZ wx r ns a b c) ∧ Hid (Below w2.heap.size w2 wx))
          case first =>
            go_region_held3 (fun w' => w'.cell? ⟨g, 0, none⟩ = some (.string ns) ∧ w'.cell? ⟨gg, 0, none⟩ = some (.int .i64 a) ∧ w'.cell? ⟨gg, 1, none⟩ = some (.int .i64 b) ∧ w'.cell? ⟨gg, 2, none⟩ = some (.int .i64 c) ∧ Below w2.heap.size w2 w') (first | (exact keepW KK.out (bel_drew (Below.refl _ _))) | (exact keepW KK.out ((bel_drew (Below.refl _ _)).alloc (Nat.le_refl _) _)) | (exact keepW KK.out (bel_drew ((Below.refl _ _).alloc (Nat.le_refl _) _))) | go_keep) (fail)
            all_goals
              rename_i held
              have S1 := Lib.hid held.2.2.2.2
              clear held
              go_wp2_with fail
              go_meet
              case rel => first | exact ⟨_, rfl, Lib.hid (PZ.new _ _ _ _ _ _), S1⟩ | exact ⟨_, rfl, Lib.hid (PZ.drew (PZ.new _ _ _ _ _ _)), S1⟩
          case rest =>
            obtain ⟨r, rfl, CQ, S2⟩ := hcut
            have Z3 := Lib.hid (Z2.out.go S2.out)
            have HB3 := Lib.hid (HB2.out.trans (S2.out.mono HB2.out.size))
            obtain ⟨v0, v1, v2, v3, _, _, _, _⟩ := CQ.out
            clear e0 m0 m1 m2 KK
            obtain ⟨q0, q1, q2, q3, f0, f1, f2, f3⟩ := Z3.out
            go_wp2_with fail
            refine (V.out _ _ v0 v1 v2 v3).mono ?_
            rintro e w' ⟨rfl, rfl⟩
            go_wp2_with fail
            refine bodyPost_ret (v := .tuple #[.agg #[.string ns, .int .i64 a, .int .i64 b, .int .i64 c], .bool true]) (by first | (simp [results, Tryd.results5, go_sem]; done) | (simp [results, Tryd.results5, go_sem, *]; done)) rfl ⟨rfl, ?_⟩
            repeat (first | exact Below.refl _ _ | exact HB3.out | refine Below.setCell ?_ (by first | (simp; done) | omega | (simp; omega)) _ | refine Below.alloc ?_ (by first | (simp; done) | omega | (simp; omega)) _ | refine bel_drew ?_)
        · rw [hv] at V
          rw [hv]
          simp only [Bool.false_eq_true, if_false]
          clear hv
          obtain ⟨ns, hns2⟩ : ∃ ns : ByteArray, ns = ⟨n.toArray⟩ := ⟨_, rfl⟩
          rw [← hns2] at V
          have NS := Lib.hid hns2
          clear hns2
          have Z0 : Hid (PZ (w.alloc (.cells #[.string ⟨#[]⟩, .int .i64 0, .int .i64 0, .int .i64 0] 23)) w.heap.size ⟨#[]⟩ 0 0 0) := Lib.hid (PZ.new _ _ _ _ _ _)
          have hb0 : Hid (Below w.heap.size w (w.alloc (.cells #[.string ⟨#[]⟩, .int .i64 0, .int .i64 0, .int .i64 0] 23))) := Lib.hid ((Below.refl _ _).alloc (Nat.le_refl _) _)
          go_enter Tryd.func5, Tryd.ntmps5
          go_wp2_with fail
          refine (l01Split_any s 32 32 rfl _ hs).mono ?_
          rintro e w1 ⟨v, rfl, hown1, hb1⟩
          obtain ⟨g, cap, rfl⟩ := Go.Joins.ownsRow_form hown1 HP.out
          have hgl := (hown1.lt g rfl).2
          have Z1 := Lib.hid (Z0.out.go hb1)
          have HB1 := Lib.hid (hb0.out.trans (hb1.mono hb0.out.size))
          rw [bs_len] at hown1 ⊢
          clear hb1 hb0 Z0
          simp only [hx, List.length_cons, List.length_nil] at hown1 ⊢
          obtain ⟨d0, d1⟩ := words_at hown1
          clear hown1
          go_wp2_with fail
          refine (specList_any ⟨t.toArray⟩ w1 hts).mono ?_
          rintro e w2 ⟨v2, rfl, hown2, hb2⟩
          rw [data_of, hr] at hown2 ⊢
          have Z2 := Lib.hid (Z1.out.go hb2)
          have HB2 := Lib.hid (HB1.out.trans (hb2.mono HB1.out.size))
          have e0 := ((bcell hb2).1 g 0 hgl).trans d0
          clear hb2 d0 d1 Z1 HB1
          simp only [Option.isSome_some, Option.getD_some] at hown2 ⊢
          obtain ⟨gg, cap2, rfl⟩ := Go.Joins.ownsRow_form hown2 (by simp)
          obtain ⟨m0, m1, m2⟩ := nums_at hown2
          clear hown2 hr hx
          rw [← NS.out] at e0
          have KK : Hid (w2.cell? ⟨g, 0, none⟩ = some (.string ns) ∧ w2.cell? ⟨gg, 0, none⟩ = some (.int .i64 a) ∧ w2.cell? ⟨gg, 1, none⟩ = some (.int .i64 b) ∧ w2.cell? ⟨gg, 2, none⟩ = some (.int .i64 c) ∧ Below w2.heap.size w2 w2) := Lib.hid ⟨e0, m0, m1, m2, Below.refl _ _⟩
          go_upto_region 7 with fail
          go_cut [7] from 8 (fun s7 wx => ∃ r : Nat, s7 = .pointer (some ⟨r, 0, none⟩) ∧ Hid (PZ wx r ns a b c) ∧ Hid (Below w2.heap.size w2 wx))
          case first =>
            go_region_held3 (fun w' => w'.cell? ⟨g, 0, none⟩ = some (.string ns) ∧ w'.cell? ⟨gg, 0, none⟩ = some (.int .i64 a) ∧ w'.cell? ⟨gg, 1, none⟩ = some (.int .i64 b) ∧ w'.cell? ⟨gg, 2, none⟩ = some (.int .i64 c) ∧ Below w2.heap.size w2 w') (first | (exact keepW KK.out (bel_drew (Below.refl _ _))) | (exact keepW KK.out ((bel_drew (Below.refl _ _)).alloc (Nat.le_refl _) _)) | (exact keepW KK.out (bel_drew ((Below.refl _ _).alloc (Nat.le_refl _) _))) | go_keep) (fail)
            all_goals
              rename_i held
              have S1 := Lib.hid held.2.2.2.2
              clear held
              go_wp2_with fail
              go_meet
              case rel => first | exact ⟨_, rfl, Lib.hid (PZ.new _ _ _ _ _ _), S1⟩ | exact ⟨_, rfl, Lib.hid (PZ.drew (PZ.new _ _ _ _ _ _)), S1⟩
          case rest =>
            obtain ⟨r, rfl, CQ, S2⟩ := hcut
            have Z3 := Lib.hid (Z2.out.go S2.out)
            have HB3 := Lib.hid (HB2.out.trans (S2.out.mono HB2.out.size))
            obtain ⟨v0, v1, v2, v3, _, _, _, _⟩ := CQ.out
            clear e0 m0 m1 m2 KK
            obtain ⟨q0, q1, q2, q3, f0, f1, f2, f3⟩ := Z3.out
            go_wp2_with fail
            refine (V.out _ _ v0 v1 v2 v3).mono ?_
            rintro e w' ⟨rfl, rfl⟩
            go_wp2_with fail
            refine bodyPost_ret (v := .tuple #[.agg #[.string ⟨#[]⟩, .int .i64 0, .int .i64 0, .int .i64 0], .bool false]) (by first | (simp [results, Tryd.results5, go_sem]; done) | (simp [results, Tryd.results5, go_sem, *]; done)) rfl ⟨rfl, ?_⟩
            repeat (first | exact Below.refl _ _ | exact HB3.out | refine Below.setCell ?_ (by first | (simp; done) | omega | (simp; omega)) _ | refine Below.alloc ?_ (by first | (simp; done) | omega | (simp; omega)) _ | refine bel_drew ?_)
      · rw [RB (by rw [hr]; intro a b c h; apply hl; cases h; rfl)]
        clear RA RB
        have hl' : ((zs.length : Int) == 3) = false := by simp; omega
        have hl2 : ¬ (zs.length : Int) = 3 := by omega
        have Z0 : Hid (PZ (w.alloc (.cells #[.string ⟨#[]⟩, .int .i64 0, .int .i64 0, .int .i64 0] 23)) w.heap.size ⟨#[]⟩ 0 0 0) := Lib.hid (PZ.new _ _ _ _ _ _)
        have hb0 : Hid (Below w.heap.size w (w.alloc (.cells #[.string ⟨#[]⟩, .int .i64 0, .int .i64 0, .int .i64 0] 23))) := Lib.hid ((Below.refl _ _).alloc (Nat.le_refl _) _)
        go_enter Tryd.func5, Tryd.ntmps5
        go_wp2_with fail
        refine (l01Split_any s 32 32 rfl _ hs).mono ?_
        rintro e w1 ⟨v, rfl, hown1, hb1⟩
        obtain ⟨g, cap, rfl⟩ := Go.Joins.ownsRow_form hown1 HP.out
        have hgl := (hown1.lt g rfl).2
        have Z1 := Lib.hid (Z0.out.go hb1)
        have HB1 := Lib.hid (hb0.out.trans (hb1.mono hb0.out.size))
        rw [bs_len] at hown1 ⊢
        clear hb1 hb0 Z0
        simp only [hx, List.length_cons, List.length_nil] at hown1 ⊢
        obtain ⟨d0, d1⟩ := words_at hown1
        clear hown1
        go_wp2_with fail
        refine (specList_any ⟨t.toArray⟩ w1 hts).mono ?_
        rintro e w2 ⟨v2, rfl, hown2, hb2⟩
        rw [data_of, hr] at hown2 ⊢
        have Z2 := Lib.hid (Z1.out.go hb2)
        have HB2 := Lib.hid (HB1.out.trans (hb2.mono HB1.out.size))
        have e0 := ((bcell hb2).1 g 0 hgl).trans d0
        clear hb2 d0 d1 Z1 HB1
        simp only [Option.isSome_some, Option.getD_some] at hown2 ⊢
        rcases Go.Joins.ownsRow_forms hown2 with ⟨rfl, hz⟩ | ⟨gg, cap2, rfl⟩
        · have HO := Lib.hid hown2
          clear hown2
          obtain ⟨q0, q1, q2, q3, f0, f1, f2, f3⟩ := Z2.out
          go_wp2_with fail
          refine bodyPost_ret (v := .tuple #[.agg #[.string ⟨#[]⟩, .int .i64 0, .int .i64 0, .int .i64 0], .bool false]) (by first | (simp [results, Tryd.results5, go_sem]; done) | (simp [results, Tryd.results5, go_sem, *]; done)) rfl ⟨rfl, ?_⟩
          repeat (first | exact Below.refl _ _ | exact HB2.out | refine Below.setCell ?_ (by first | (simp; done) | omega | (simp; omega)) _ | refine Below.alloc ?_ (by first | (simp; done) | omega | (simp; omega)) _ | refine bel_drew ?_)
        · have HO := Lib.hid hown2
          clear hown2
          obtain ⟨q0, q1, q2, q3, f0, f1, f2, f3⟩ := Z2.out
          go_wp2_with fail
          refine bodyPost_ret (v := .tuple #[.agg #[.string ⟨#[]⟩, .int .i64 0, .int .i64 0, .int .i64 0], .bool false]) (by first | (simp [results, Tryd.results5, go_sem]; done) | (simp [results, Tryd.results5, go_sem, *]; done)) rfl ⟨rfl, ?_⟩
          repeat (first | exact Below.refl _ _ | exact HB2.out | refine Below.setCell ?_ (by first | (simp; done) | omega | (simp; omega)) _ | refine Below.alloc ?_ (by first | (simp; done) | omega | (simp; omega)) _ | refine bel_drew ?_)
  · rw [rpV_len _ hl]
    have hl' : (((spl 32 s.data.toList).length : Int) == 2) = false := by simp; omega
    have hl2 : ¬ ((spl 32 s.data.toList).length : Int) = 2 := by omega
    clear PS
    have Z0 : Hid (PZ (w.alloc (.cells #[.string ⟨#[]⟩, .int .i64 0, .int .i64 0, .int .i64 0] 23)) w.heap.size ⟨#[]⟩ 0 0 0) := Lib.hid (PZ.new _ _ _ _ _ _)
    have hb0 : Hid (Below w.heap.size w (w.alloc (.cells #[.string ⟨#[]⟩, .int .i64 0, .int .i64 0, .int .i64 0] 23))) := Lib.hid ((Below.refl _ _).alloc (Nat.le_refl _) _)
    go_enter Tryd.func5, Tryd.ntmps5
    go_wp2_with fail
    refine (l01Split_any s 32 32 rfl _ hs).mono ?_
    rintro e w1 ⟨v, rfl, hown1, hb1⟩
    obtain ⟨g, cap, rfl⟩ := Go.Joins.ownsRow_form hown1 HP.out
    have hgl := (hown1.lt g rfl).2
    have Z1 := Lib.hid (Z0.out.go hb1)
    have HB1 := Lib.hid (hb0.out.trans (hb1.mono hb0.out.size))
    rw [bs_len] at hown1 ⊢
    clear hb1 hb0 Z0
    generalize (spl 32 s.data.toList).length = len at *
    have HO := Lib.hid hown1
    clear hown1
    obtain ⟨q0, q1, q2, q3, f0, f1, f2, f3⟩ := Z1.out
    go_wp2_with fail
    refine bodyPost_ret (v := .tuple #[.agg #[.string ⟨#[]⟩, .int .i64 0, .int .i64 0, .int .i64 0], .bool false]) (by first | (simp [results, Tryd.results5, go_sem]; done) | (simp [results, Tryd.results5, go_sem, *]; done)) rfl ⟨rfl, ?_⟩
    repeat (first | exact Below.refl _ _ | exact HB1.out | refine Below.setCell ?_ (by first | (simp; done) | omega | (simp; omega)) _ | refine Below.alloc ?_ (by first | (simp; done) | omega | (simp; omega)) _ | refine bel_drew ?_)

theorem keepNP {w W W' : World} {h : Nat} {u0 u1 u2 : Value} (k : W.cell? ⟨h, 0, none⟩ = some u0 ∧ W.cell? ⟨h, 1, none⟩ = some u1 ∧ W.cell? ⟨h, 2, none⟩ = some u2 ∧ Below w.heap.size w W) (hb : Below W.heap.size W W') :
    W'.cell? ⟨h, 0, none⟩ = some u0 ∧ W'.cell? ⟨h, 1, none⟩ = some u1 ∧ W'.cell? ⟨h, 2, none⟩ = some u2 ∧ Below w.heap.size w W' := by
  obtain ⟨h1, h2, h3, hB⟩ := k
  have l1 := World.block_lt_of_cell? W ⟨h, 0, none⟩ h1
  obtain ⟨c, _⟩ := bcell hb
  exact ⟨(c _ _ l1).trans h1, (c _ _ l1).trans h2, (c _ _ l1).trans h3, hB.trans (hb.mono hB.size)⟩
theorem rpV_cut (l : List UInt8) : (listN 3 (Lib.cut l [32]).2.1 = none ∧ rpV l = .tuple #[.agg #[.string ⟨#[]⟩, .int .i64 0, .int .i64 0, .int .i64 0], .bool false]) ∨
    (∃ a b c, listN 3 (Lib.cut l [32]).2.1 = some [a, b, c] ∧ rpV l = if planetB ⟨(Lib.cut l [32]).1.toArray⟩ a b c = true then .tuple #[.agg #[.string ⟨(Lib.cut l [32]).1.toArray⟩, .int .i64 a, .int .i64 b, .int .i64 c], .bool true] else .tuple #[.agg #[.string ⟨#[]⟩, .int .i64 0, .int .i64 0, .int .i64 0], .bool false]) := by
  rcases spl_cut l with ⟨n, t, hx, hc⟩ | ⟨hl, hc⟩
  · rw [hc]
    unfold listN
    simp only
    cases hr : listR t with
    | none => exact Or.inl ⟨rfl, rpV_bad l n t hx (by rw [hr]; intro a b c h; cases h)⟩
    | some zs =>
      by_cases hl : zs.length = 3
      · obtain ⟨a, b, c, rfl⟩ : ∃ a b c, zs = [a, b, c] := by
          match zs, hl with
          | [a, b, c], _ => exact ⟨a, b, c, rfl⟩
        exact Or.inr ⟨a, b, c, by simp, rpV_at l n t a b c hx hr⟩
      · exact Or.inl ⟨by simp only [if_neg hl], rpV_bad l n t hx (by rw [hr]; intro a b c h; apply hl; cases h; rfl)⟩
  · refine Or.inl ⟨?_, rpV_len l hl⟩
    unfold listN
    rw [hc]

set_option maxRecDepth 100000 in
set_option maxHeartbeats 4000000 in
theorem implRP_any (s : ByteArray) (hs : s.size ≤ 1048576) (w : World) (ht : TabOK w) (he : ErrOK w) (hlen : LenOK w) :
    Calls Tryd.prog 6 #[.string s] w fun e w' => e = .returned (rpV s.data.toList) ∧ Below w.heap.size w w' := by
  have RN := Lib.hid (fun w ht he hl => readNamed_any s 3 (by omega) hs w ht he hl)
  have hsz := (cut_len s.data.toList).1
  have hsl : s.data.toList.length = s.size := Array.length_toList
  have hA : (⟨(Lib.cut s.data.toList [32]).1.toArray⟩ : ByteArray).size ≤ 1048576 := by
    show ((Lib.cut s.data.toList [32]).1.toArray).size ≤ 1048576
    simp only [List.size_toArray]
    omega
  have CC := rpV_cut s.data.toList
  have Z0 : Hid (PZ (w.alloc (.cells #[.string ⟨#[]⟩, .int .i64 0, .int .i64 0, .int .i64 0] 23)) w.heap.size ⟨#[]⟩ 0 0 0) := Lib.hid (PZ.new _ _ _ _ _ _)
  have hb0 : Hid (Below w.heap.size w (w.alloc (.cells #[.string ⟨#[]⟩, .int .i64 0, .int .i64 0, .int .i64 0] 23))) := Lib.hid ((Below.refl _ _).alloc (Nat.le_refl _) _)
  have T0 := Lib.hid (ht.below hb0.out)
  have E0 := Lib.hid (he.below hb0.out)
  have L0 := Lib.hid (hlen.below hb0.out)
  clear ht he hlen hsz hsl
  generalize rpV s.data.toList = D at *
  generalize (⟨(Lib.cut s.data.toList [32]).1.toArray⟩ : ByteArray) = A at *
  generalize listN 3 (Lib.cut s.data.toList [32]).2.1 = r at *
  rcases CC with ⟨hr, hD⟩ | ⟨a, b, c, hr, hD⟩
  · subst hr hD
    go_enter Tryd.func6, Tryd.ntmps6
    go_wp2_with fail
    refine (RN.out _ T0.out E0.out L0.out).mono ?_
    rintro e w1 ⟨v, rfl, hown, hb1⟩
    have Z1 := Lib.hid (Z0.out.go hb1)
    have HB1 := Lib.hid (hb0.out.trans (hb1.mono hb0.out.size))
    clear hb1 hb0 Z0
    simp only [Option.isSome_none, Option.getD_none, List.map_nil, List.length_nil] at hown ⊢
    have HO := Lib.hid hown
    clear hown
    obtain ⟨q0, q1, q2, q3, f0, f1, f2, f3⟩ := Z1.out
    go_wp2_with fail
    refine bodyPost_ret (v := .tuple #[.agg #[.string ⟨#[]⟩, .int .i64 0, .int .i64 0, .int .i64 0], .bool false]) (by first | (simp [results, Tryd.results6, go_sem]; done) | (simp [results, Tryd.results6, go_sem, *]; done)) rfl ⟨rfl, ?_⟩
    repeat (first | exact Below.refl _ _ | exact HB1.out | refine Below.setCell ?_ (by first | (simp; done) | omega | (simp; omega)) _ | refine Below.alloc ?_ (by first | (simp; done) | omega | (simp; omega)) _ | refine bel_drew ?_)
  · subst hr
    have V := Lib.hid (fun w => validPlanet_any A a b c (by unfold maxLen; omega) w)
    clear hA
    cases hv : planetB A a b c with
    | false =>
      rw [hv] at V hD
      simp only [Bool.false_eq_true, if_false] at hD
      subst hD
      clear hv
      go_enter Tryd.func6, Tryd.ntmps6
      go_wp2_with fail
      refine (RN.out _ T0.out E0.out L0.out).mono ?_
      rintro e w1 ⟨v, rfl, hown, hb1⟩
      have Z1 := Lib.hid (Z0.out.go hb1)
      have HB1 := Lib.hid (hb0.out.trans (hb1.mono hb0.out.size))
      clear hb1 hb0 Z0
      simp only [Option.isSome_some, Option.getD_some] at hown ⊢
      obtain ⟨gg, cap2, rfl⟩ := Go.Joins.ownsRow_form hown (by simp)
      obtain ⟨m0, m1, m2⟩ := nums_at hown
      clear hown
      have KK : Hid (w1.cell? ⟨gg, 0, none⟩ = some (.int .i64 a) ∧ w1.cell? ⟨gg, 1, none⟩ = some (.int .i64 b) ∧ w1.cell? ⟨gg, 2, none⟩ = some (.int .i64 c) ∧ Below w1.heap.size w1 w1) := Lib.hid ⟨m0, m1, m2, Below.refl _ _⟩
      go_upto_region 4 with fail
      go_cut [7] from 8 (fun s7 wx => ∃ q : Nat, s7 = .pointer (some ⟨q, 0, none⟩) ∧ Hid (PZ wx q A a b c) ∧ Hid (Below w1.heap.size w1 wx))
      case first =>
        go_region_held3 (fun w' => w'.cell? ⟨gg, 0, none⟩ = some (.int .i64 a) ∧ w'.cell? ⟨gg, 1, none⟩ = some (.int .i64 b) ∧ w'.cell? ⟨gg, 2, none⟩ = some (.int .i64 c) ∧ Below w1.heap.size w1 w') (first | (exact keepNP KK.out (bel_drew (Below.refl _ _))) | (exact keepNP KK.out ((bel_drew (Below.refl _ _)).alloc (Nat.le_refl _) _)) | (exact keepNP KK.out (bel_drew ((Below.refl _ _).alloc (Nat.le_refl _) _))) | go_keep) (fail)
        all_goals
          rename_i held
          have S1 := Lib.hid held.2.2.2
          clear held
          go_wp2_with fail
          go_meet
          case rel => first | exact ⟨_, rfl, Lib.hid (PZ.new _ _ _ _ _ _), S1⟩ | exact ⟨_, rfl, Lib.hid (PZ.drew (PZ.new _ _ _ _ _ _)), S1⟩
      case rest =>
        obtain ⟨q, rfl, CQ, S2⟩ := hcut
        have Z2 := Lib.hid (Z1.out.go S2.out)
        have HB2 := Lib.hid (HB1.out.trans (S2.out.mono HB1.out.size))
        obtain ⟨v0, v1, v2, v3, _, _, _, _⟩ := CQ.out
        clear m0 m1 m2 KK
        go_wp2_with fail
        refine (V.out _).mono ?_
        rintro e w4 ⟨rfl, hb4⟩
        have Z4 := Lib.hid (Z2.out.go hb4)
        have C4 := Lib.hid (CQ.out.go hb4)
        have HB4 := Lib.hid (HB2.out.trans (hb4.mono HB2.out.size))
        clear hb4 v0 v1 v2 v3
        obtain ⟨v0, v1, v2, v3, _, _, _, _⟩ := C4.out
        obtain ⟨q0, q1, q2, q3, f0, f1, f2, f3⟩ := Z4.out
        go_wp2_with fail
        refine bodyPost_ret (v := .tuple #[.agg #[.string ⟨#[]⟩, .int .i64 0, .int .i64 0, .int .i64 0], .bool false]) (by first | (simp [results, Tryd.results6, go_sem]; done) | (simp [results, Tryd.results6, go_sem, *]; done)) rfl ⟨rfl, ?_⟩
        repeat (first | exact Below.refl _ _ | exact HB4.out | refine Below.setCell ?_ (by first | (simp; done) | omega | (simp; omega)) _ | refine Below.alloc ?_ (by first | (simp; done) | omega | (simp; omega)) _ | refine bel_drew ?_)
    | true =>
      rw [hv] at V hD
      simp only [if_true] at hD
      subst hD
      clear hv
      go_enter Tryd.func6, Tryd.ntmps6
      go_wp2_with fail
      refine (RN.out _ T0.out E0.out L0.out).mono ?_
      rintro e w1 ⟨v, rfl, hown, hb1⟩
      have Z1 := Lib.hid (Z0.out.go hb1)
      have HB1 := Lib.hid (hb0.out.trans (hb1.mono hb0.out.size))
      clear hb1 hb0 Z0
      simp only [Option.isSome_some, Option.getD_some] at hown ⊢
      obtain ⟨gg, cap2, rfl⟩ := Go.Joins.ownsRow_form hown (by simp)
      obtain ⟨m0, m1, m2⟩ := nums_at hown
      clear hown
      have KK : Hid (w1.cell? ⟨gg, 0, none⟩ = some (.int .i64 a) ∧ w1.cell? ⟨gg, 1, none⟩ = some (.int .i64 b) ∧ w1.cell? ⟨gg, 2, none⟩ = some (.int .i64 c) ∧ Below w1.heap.size w1 w1) := Lib.hid ⟨m0, m1, m2, Below.refl _ _⟩
      go_upto_region 4 with fail
      go_cut [7] from 8 (fun s7 wx => ∃ q : Nat, s7 = .pointer (some ⟨q, 0, none⟩) ∧ Hid (PZ wx q A a b c) ∧ Hid (Below w1.heap.size w1 wx))
      case first =>
        go_region_held3 (fun w' => w'.cell? ⟨gg, 0, none⟩ = some (.int .i64 a) ∧ w'.cell? ⟨gg, 1, none⟩ = some (.int .i64 b) ∧ w'.cell? ⟨gg, 2, none⟩ = some (.int .i64 c) ∧ Below w1.heap.size w1 w') (first | (exact keepNP KK.out (bel_drew (Below.refl _ _))) | (exact keepNP KK.out ((bel_drew (Below.refl _ _)).alloc (Nat.le_refl _) _)) | (exact keepNP KK.out (bel_drew ((Below.refl _ _).alloc (Nat.le_refl _) _))) | go_keep) (fail)
        all_goals
          rename_i held
          have S1 := Lib.hid held.2.2.2
          clear held
          go_wp2_with fail
          go_meet
          case rel => first | exact ⟨_, rfl, Lib.hid (PZ.new _ _ _ _ _ _), S1⟩ | exact ⟨_, rfl, Lib.hid (PZ.drew (PZ.new _ _ _ _ _ _)), S1⟩
      case rest =>
        obtain ⟨q, rfl, CQ, S2⟩ := hcut
        have Z2 := Lib.hid (Z1.out.go S2.out)
        have HB2 := Lib.hid (HB1.out.trans (S2.out.mono HB1.out.size))
        obtain ⟨v0, v1, v2, v3, _, _, _, _⟩ := CQ.out
        clear m0 m1 m2 KK
        go_wp2_with fail
        refine (V.out _).mono ?_
        rintro e w4 ⟨rfl, hb4⟩
        have Z4 := Lib.hid (Z2.out.go hb4)
        have C4 := Lib.hid (CQ.out.go hb4)
        have HB4 := Lib.hid (HB2.out.trans (hb4.mono HB2.out.size))
        clear hb4 v0 v1 v2 v3
        obtain ⟨v0, v1, v2, v3, _, _, _, _⟩ := C4.out
        obtain ⟨q0, q1, q2, q3, f0, f1, f2, f3⟩ := Z4.out
        go_wp2_with fail
        refine bodyPost_ret (v := .tuple #[.agg #[.string A, .int .i64 a, .int .i64 b, .int .i64 c], .bool true]) (by first | (simp [results, Tryd.results6, go_sem]; done) | (simp [results, Tryd.results6, go_sem, *]; done)) rfl ⟨rfl, ?_⟩
        repeat (first | exact Below.refl _ _ | exact HB4.out | refine Below.setCell ?_ (by first | (simp; done) | omega | (simp; omega)) _ | refine Below.alloc ?_ (by first | (simp; done) | omega | (simp; omega)) _ | refine bel_drew ?_)
end Go.Proofs.YtkfhjmkodcahpaaDoor
