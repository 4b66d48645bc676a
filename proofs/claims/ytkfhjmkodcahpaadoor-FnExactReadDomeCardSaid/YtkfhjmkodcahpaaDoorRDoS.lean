/-
  Domes read from texts: the contracts of readNumbers, readNamedNumbers (package impl) and of ReadDome (packages spec and impl).
-/
import Derived.Test.YtkfhjmkodcahpaaDoorDTxt
import Derived.Test.YtkfhjmkodcahpaaDoorCutM
import Derived.Test.YtkfhjmkodcahpaaDoorShelfCut
import Derived.Deep.Cut
namespace Go.Proofs.YtkfhjmkodcahpaaDoor
open Go.RowKit
set_option linter.unusedVariables false

/-- The dome with a text. -/
def rdV (l : List UInt8) : Value :=
  match spl 32 l with
  | [n, t] => match listR t with
    | some [a, b] => if domeB ⟨n.toArray⟩ a b = true then .tuple #[.agg #[.string ⟨n.toArray⟩, .int .i64 a, .int .i64 b], .bool true] else .tuple #[.agg #[.string ⟨#[]⟩, .int .i64 0, .int .i64 0], .bool false]
    | _ => .tuple #[.agg #[.string ⟨#[]⟩, .int .i64 0, .int .i64 0], .bool false]
  | _ => .tuple #[.agg #[.string ⟨#[]⟩, .int .i64 0, .int .i64 0], .bool false]
theorem rdV_form (l : List UInt8) : ∃ (s : ByteArray) (a b : Int) (ok : Bool), rdV l = .tuple #[.agg #[.string s, .int .i64 a, .int .i64 b], .bool ok] := by
  unfold rdV
  split
  · split
    · split <;> exact ⟨_, _, _, _, rfl⟩
    · exact ⟨_, _, _, _, rfl⟩
  · exact ⟨_, _, _, _, rfl⟩
theorem rdV_len (l : List UInt8) (h : (spl 32 l).length ≠ 2) : rdV l = .tuple #[.agg #[.string ⟨#[]⟩, .int .i64 0, .int .i64 0], .bool false] := by
  unfold rdV
  split
  · rename_i e; rw [e] at h; simp at h
  · rfl
theorem rdV_bad (l n t : List UInt8) (h : spl 32 l = [n, t]) (k : ∀ a b, listR t ≠ some [a, b]) : rdV l = .tuple #[.agg #[.string ⟨#[]⟩, .int .i64 0, .int .i64 0], .bool false] := by
  unfold rdV
  rw [h]
  split
  · rename_i n' t' e
    cases e
    split
    · rename_i e; exact absurd e (k _ _)
    · rfl
  · rename_i e; exact absurd rfl (e _ _)
theorem rdV_at (l n t : List UInt8) (a b : Int) (h : spl 32 l = [n, t]) (k : listR t = some [a, b]) : rdV l = if domeB ⟨n.toArray⟩ a b = true then .tuple #[.agg #[.string ⟨n.toArray⟩, .int .i64 a, .int .i64 b], .bool true] else .tuple #[.agg #[.string ⟨#[]⟩, .int .i64 0, .int .i64 0], .bool false] := by
  unfold rdV
  rw [h]
  split
  · rename_i n' t' e
    cases e
    rw [k]
  · rename_i e; exact absurd rfl (e _ _)
/-- A dome in a block of its own, that may be written. -/
structure DZ (w : World) (g : Nat) (s : ByteArray) (a b : Int) : Prop where
  c0 : w.cell? ⟨g, 0, none⟩ = some (.string s)
  c1 : w.cell? ⟨g, 1, none⟩ = some (.int .i64 a)
  c2 : w.cell? ⟨g, 2, none⟩ = some (.int .i64 b)
  f0 : w.frozen? ⟨g, 0, none⟩ = false
  f1 : w.frozen? ⟨g, 1, none⟩ = false
  f2 : w.frozen? ⟨g, 2, none⟩ = false
theorem DZ.inn {w : World} {g : Nat} {s : ByteArray} {a b : Int} (h : DZ w g s a b) : g < w.heap.size := World.block_lt_of_cell? w ⟨g, 0, none⟩ h.c0
theorem DZ.go {w w' : World} {g : Nat} {s : ByteArray} {a b : Int} (h : DZ w g s a b) (hb : Below w.heap.size w w') : DZ w' g s a b := by
  obtain ⟨k1, k2⟩ := bcell hb
  have hg := h.inn
  exact ⟨(k1 g 0 hg).trans h.c0, (k1 g 1 hg).trans h.c1, (k1 g 2 hg).trans h.c2, (k2 g 0 hg).trans h.f0, (k2 g 1 hg).trans h.f1, (k2 g 2 hg).trans h.f2⟩
theorem DZ.new (w : World) (T : TypeId) (s : ByteArray) (a b : Int) : DZ (w.alloc (.cells #[.string s, .int .i64 a, .int .i64 b] T)) w.heap.size s a b := ⟨by simp, by simp, by simp, by simp, by simp, by simp⟩
theorem DZ.drew {w : World} {g : Nat} {s : ByteArray} {a b : Int} (h : DZ w g s a b) : DZ w.drew g s a b := ⟨h.c0, h.c1, h.c2, h.f0, h.f1, h.f2⟩
theorem DZ.alloc {w : World} {g : Nat} {s : ByteArray} {a b : Int} (h : DZ w g s a b) (o : Obj) : DZ (w.alloc o) g s a b := h.go ((Below.refl _ _).alloc (Nat.le_refl _) o)
theorem DZ.set {w : World} {g : Nat} {s : ByteArray} {a b : Int} (h : DZ w g s a b) (u : ByteArray) (q r : Int) : DZ (((w.setCell ⟨g, 0, none⟩ (.string u)).setCell ⟨g, 1, none⟩ (.int .i64 q)).setCell ⟨g, 2, none⟩ (.int .i64 r)) g u q r := by
  have h1 : DZ (w.setCell ⟨g, 0, none⟩ (.string u)) g u a b := ⟨by rw [World.cell?_setCell_same (h := h.c0)], by rw [World.cell?_setCell_other (h := by simp)]; exact h.c1, by rw [World.cell?_setCell_other (h := by simp)]; exact h.c2, by simp [h.f0], by simp [h.f1], by simp [h.f2]⟩
  have h2 : DZ ((w.setCell ⟨g, 0, none⟩ (.string u)).setCell ⟨g, 1, none⟩ (.int .i64 q)) g u q b := ⟨by rw [World.cell?_setCell_other (h := by simp)]; exact h1.c0, by rw [World.cell?_setCell_same (h := h1.c1)], by rw [World.cell?_setCell_other (h := by simp)]; exact h1.c2, by simp [h1.f0], by simp [h1.f1], by simp [h1.f2]⟩
  exact ⟨by rw [World.cell?_setCell_other (h := by simp)]; exact h2.c0, by rw [World.cell?_setCell_other (h := by simp)]; exact h2.c1, by rw [World.cell?_setCell_same (h := h2.c2)], by simp [h2.f0], by simp [h2.f1], by simp [h2.f2]⟩
theorem data_ofD (t : List UInt8) : (⟨t.toArray⟩ : ByteArray).data.toList = t := by simp
theorem words_atD {w : World} {B g cap : Nat} {n t : List UInt8} (h : w.ownsRow B 9 1 (.slice (some ⟨g, 0, none⟩) 2 cap) 2 ((bs [n, t]).map Value.string)) : w.cell? ⟨g, 0, none⟩ = some (.string ⟨n.toArray⟩) ∧ w.cell? ⟨g, 1, none⟩ = some (.string ⟨t.toArray⟩) :=
  ⟨by rw [h.cellAt 0 (by omega)]; rfl, by rw [h.cellAt 1 (by omega)]; rfl⟩
theorem nums_atD {w : World} {B g cap : Nat} {a b : Int} (h : w.ownsRow B 2 1 (.slice (some ⟨g, 0, none⟩) 2 cap) 2 ([a, b].map (Value.int .i64))) : w.cell? ⟨g, 0, none⟩ = some (.int .i64 a) ∧ w.cell? ⟨g, 1, none⟩ = some (.int .i64 b) :=
  ⟨by rw [h.cellAt 0 (by omega)]; rfl, by rw [h.cellAt 1 (by omega)]; rfl⟩
theorem keepWD {w W W' : World} {g h : Nat} {v u0 u1 : Value} (k : W.cell? ⟨g, 0, none⟩ = some v ∧ W.cell? ⟨h, 0, none⟩ = some u0 ∧ W.cell? ⟨h, 1, none⟩ = some u1 ∧ Below w.heap.size w W) (hb : Below W.heap.size W W') :
    W'.cell? ⟨g, 0, none⟩ = some v ∧ W'.cell? ⟨h, 0, none⟩ = some u0 ∧ W'.cell? ⟨h, 1, none⟩ = some u1 ∧ Below w.heap.size w W' := by
  obtain ⟨h0, h1, h2, hB⟩ := k
  have l0 := World.block_lt_of_cell? W ⟨g, 0, none⟩ h0
  have l1 := World.block_lt_of_cell? W ⟨h, 0, none⟩ h1
  obtain ⟨c, _⟩ := bcell hb
  exact ⟨(c _ _ l0).trans h0, (c _ _ l1).trans h1, (c _ _ l1).trans h2, hB.trans (hb.mono hB.size)⟩
theorem keepND {w W W' : World} {h : Nat} {u0 u1 : Value} (k : W.cell? ⟨h, 0, none⟩ = some u0 ∧ W.cell? ⟨h, 1, none⟩ = some u1 ∧ Below w.heap.size w W) (hb : Below W.heap.size W W') :
    W'.cell? ⟨h, 0, none⟩ = some u0 ∧ W'.cell? ⟨h, 1, none⟩ = some u1 ∧ Below w.heap.size w W' := by
  obtain ⟨h1, h2, hB⟩ := k
  have l1 := World.block_lt_of_cell? W ⟨h, 0, none⟩ h1
  obtain ⟨c, _⟩ := bcell hb
  exact ⟨(c _ _ l1).trans h1, (c _ _ l1).trans h2, hB.trans (hb.mono hB.size)⟩

set_option maxRecDepth 100000 in
set_option maxHeartbeats 4000000 in
theorem l09Read_any (s : ByteArray) (hs : s.size ≤ 1048576) (w : World) :
    Calls Tryd.prog 16 #[.string s] w fun e w' => e = .returned (rdV s.data.toList) ∧ Below w.heap.size w w' := by
  have HP : Hid (0 < (bs (spl 32 s.data.toList)).length) := Lib.hid (by rw [bs_len]; exact List.length_pos_iff.2 (spl_ne 32 _))
  have PS := part_size s 32
  by_cases hl : (spl 32 s.data.toList).length = 2
  · obtain ⟨n, t, hx⟩ : ∃ n t, spl 32 s.data.toList = [n, t] := by
      generalize spl 32 s.data.toList = xs at hl
      match xs, hl with
      | [n, t], _ => exact ⟨n, t, rfl⟩
    have hts : (⟨t.toArray⟩ : ByteArray).size ≤ 1048576 := by
      have := PS 1 (by rw [hl]; omega)
      simp only [hx, List.getElem_cons_zero, List.getElem_cons_succ] at this
      omega
    have RB := rdV_bad s.data.toList n t hx
    have RA := fun a b => rdV_at s.data.toList n t a b hx
    clear PS hl
    cases hr : listR t with
    | none =>
      rw [RB (by rw [hr]; intro a b h; cases h)]
      clear RA RB
      have Z0 : Hid (DZ (w.alloc (.cells #[.string ⟨#[]⟩, .int .i64 0, .int .i64 0] 29)) w.heap.size ⟨#[]⟩ 0 0) := Lib.hid (DZ.new _ _ _ _ _)
      have hb0 : Hid (Below w.heap.size w (w.alloc (.cells #[.string ⟨#[]⟩, .int .i64 0, .int .i64 0] 29))) := Lib.hid ((Below.refl _ _).alloc (Nat.le_refl _) _)
      go_enter Tryd.func16, Tryd.ntmps16
      go_wp2_with fail
      refine (l01Split_any s 32 32 rfl _ hs).mono ?_
      rintro e w1 ⟨v, rfl, hown1, hb1⟩
      obtain ⟨g, cap, rfl⟩ := Go.Joins.ownsRow_form hown1 HP.out
      have hgl := (hown1.lt g rfl).2
      have Z1 := Lib.hid (Z0.out.go hb1)
      have HB1 := Lib.hid (hb0.out.trans (hb1.mono hb0.out.size))
      rw [bs_len] at hown1 ⊢
      clear hb1 hb0 Z0
      simp only [hx, List.length_cons, List.length_nil] at hown1 ⊢
      obtain ⟨d0, d1⟩ := words_atD hown1
      clear hown1
      go_wp2_with fail
      refine (specList_any ⟨t.toArray⟩ w1 hts).mono ?_
      rintro e w2 ⟨v2, rfl, hown2, hb2⟩
      rw [data_ofD, hr] at hown2 ⊢
      have Z2 := Lib.hid (Z1.out.go hb2)
      have HB2 := Lib.hid (HB1.out.trans (hb2.mono HB1.out.size))
      have e0 := ((bcell hb2).1 g 0 hgl).trans d0
      clear hb2 d0 d1 Z1 HB1
      simp only [Option.isSome_none, Option.getD_none, List.map_nil, List.length_nil] at hown2 ⊢
      have HO := Lib.hid hown2
      clear hown2
      obtain ⟨q0, q1, q2, f0, f1, f2⟩ := Z2.out
      go_wp2_with fail
      refine bodyPost_ret (v := .tuple #[.agg #[.string ⟨#[]⟩, .int .i64 0, .int .i64 0], .bool false]) (by first | (simp [results, Tryd.results16, go_sem]; done) | (simp [results, Tryd.results16, go_sem, *]; done)) rfl ⟨rfl, ?_⟩
      repeat (first | exact Below.refl _ _ | exact HB2.out | refine Below.setCell ?_ (by first | (simp; done) | omega | (simp; omega)) _ | refine Below.alloc ?_ (by first | (simp; done) | omega | (simp; omega)) _ | refine bel_drew ?_)
    | some zs =>
      by_cases hl : zs.length = 2
      · obtain ⟨a, b, rfl⟩ : ∃ a b, zs = [a, b] := by
          match zs, hl with
          | [a, b], _ => exact ⟨a, b, rfl⟩
        rw [RA a b hr]
        clear RA RB hl
        have V := Lib.hid (fun (w : World) g c0 c1 c2 => l09Ok_at g 0 ⟨n.toArray⟩ a b w c0 c1 c2)
        have hok : domeB ⟨n.toArray⟩ a b = true ∨ domeB ⟨n.toArray⟩ a b = false := by cases domeB ⟨n.toArray⟩ a b <;> simp
        rcases hok with hv | hv
        · rw [hv] at V
          rw [hv]
          simp only [if_true]
          clear hv
          obtain ⟨ns, hns2⟩ : ∃ ns : ByteArray, ns = ⟨n.toArray⟩ := ⟨_, rfl⟩
          rw [← hns2] at V ⊢
          have NS := Lib.hid hns2
          clear hns2
          have Z0 : Hid (DZ (w.alloc (.cells #[.string ⟨#[]⟩, .int .i64 0, .int .i64 0] 29)) w.heap.size ⟨#[]⟩ 0 0) := Lib.hid (DZ.new _ _ _ _ _)
          have hb0 : Hid (Below w.heap.size w (w.alloc (.cells #[.string ⟨#[]⟩, .int .i64 0, .int .i64 0] 29))) := Lib.hid ((Below.refl _ _).alloc (Nat.le_refl _) _)
          go_enter Tryd.func16, Tryd.ntmps16
          go_wp2_with fail
          refine (l01Split_any s 32 32 rfl _ hs).mono ?_
          rintro e w1 ⟨v, rfl, hown1, hb1⟩
          obtain ⟨g, cap, rfl⟩ := Go.Joins.ownsRow_form hown1 HP.out
          have hgl := (hown1.lt g rfl).2
          have Z1 := Lib.hid (Z0.out.go hb1)
          have HB1 := Lib.hid (hb0.out.trans (hb1.mono hb0.out.size))
          rw [bs_len] at hown1 ⊢
          clear hb1 hb0 Z0
          simp only [hx, List.length_cons, List.length_nil] at hown1 ⊢
          obtain ⟨d0, d1⟩ := words_atD hown1
          clear hown1
          go_wp2_with fail
          refine (specList_any ⟨t.toArray⟩ w1 hts).mono ?_
          rintro e w2 ⟨v2, rfl, hown2, hb2⟩
          rw [data_ofD, hr] at hown2 ⊢
          have Z2 := Lib.hid (Z1.out.go hb2)
          have HB2 := Lib.hid (HB1.out.trans (hb2.mono HB1.out.size))
          have e0 := ((bcell hb2).1 g 0 hgl).trans d0
          clear hb2 d0 d1 Z1 HB1
          simp only [Option.isSome_some, Option.getD_some] at hown2 ⊢
          obtain ⟨gg, cap2, rfl⟩ := Go.Joins.ownsRow_form hown2 (by simp)
          obtain ⟨m0, m1⟩ := nums_atD hown2
          clear hown2 hr hx
          rw [← NS.out] at e0
          have KK : Hid (w2.cell? ⟨g, 0, none⟩ = some (.string ns) ∧ w2.cell? ⟨gg, 0, none⟩ = some (.int .i64 a) ∧ w2.cell? ⟨gg, 1, none⟩ = some (.int .i64 b) ∧ Below w2.heap.size w2 w2) := Lib.hid ⟨e0, m0, m1, Below.refl _ _⟩
          go_upto_region 7 with fail
          go_cut [7] from 8 (fun s7 wx => ∃ r : Nat, s7 = .pointer (some ⟨r, 0, none⟩) ∧ Hid (DZ wx r ns a b) ∧ Hid (Below w2.heap.size w2 wx))
          case first =>
            go_region_held3 (fun w' => w'.cell? ⟨g, 0, none⟩ = some (.string ns) ∧ w'.cell? ⟨gg, 0, none⟩ = some (.int .i64 a) ∧ w'.cell? ⟨gg, 1, none⟩ = some (.int .i64 b) ∧ Below w2.heap.size w2 w') (first | (exact keepWD KK.out (bel_drew (Below.refl _ _))) | (exact keepWD KK.out ((bel_drew (Below.refl _ _)).alloc (Nat.le_refl _) _)) | (exact keepWD KK.out (bel_drew ((Below.refl _ _).alloc (Nat.le_refl _) _))) | go_keep) (fail)
            all_goals
              rename_i held
              have S1 := Lib.hid held.2.2.2
              clear held
              go_wp2_with fail
              go_meet
              case rel => first | exact ⟨_, rfl, Lib.hid (DZ.new _ _ _ _ _), S1⟩ | exact ⟨_, rfl, Lib.hid (DZ.drew (DZ.new _ _ _ _ _)), S1⟩
          case rest =>
            obtain ⟨r, rfl, CQ, S2⟩ := hcut
            have Z3 := Lib.hid (Z2.out.go S2.out)
            have HB3 := Lib.hid (HB2.out.trans (S2.out.mono HB2.out.size))
            obtain ⟨v0, v1, v2, _, _, _⟩ := CQ.out
            clear e0 m0 m1 KK
            obtain ⟨q0, q1, q2, f0, f1, f2⟩ := Z3.out
            go_wp2_with fail
            refine (V.out _ _ v0 v1 v2).mono ?_
            rintro e w' ⟨rfl, rfl⟩
            go_wp2_with fail
            refine bodyPost_ret (v := .tuple #[.agg #[.string ns, .int .i64 a, .int .i64 b], .bool true]) (by first | (simp [results, Tryd.results16, go_sem]; done) | (simp [results, Tryd.results16, go_sem, *]; done)) rfl ⟨rfl, ?_⟩
            repeat (first | exact Below.refl _ _ | exact HB3.out | refine Below.setCell ?_ (by first | (simp; done) | omega | (simp; omega)) _ | refine Below.alloc ?_ (by first | (simp; done) | omega | (simp; omega)) _ | refine bel_drew ?_)
        · rw [hv] at V
          rw [hv]
          simp only [Bool.false_eq_true, if_false]
          clear hv
          obtain ⟨ns, hns2⟩ : ∃ ns : ByteArray, ns = ⟨n.toArray⟩ := ⟨_, rfl⟩
          rw [← hns2] at V
          have NS := Lib.hid hns2
          clear hns2
          have Z0 : Hid (DZ (w.alloc (.cells #[.string ⟨#[]⟩, .int .i64 0, .int .i64 0] 29)) w.heap.size ⟨#[]⟩ 0 0) := Lib.hid (DZ.new _ _ _ _ _)
          have hb0 : Hid (Below w.heap.size w (w.alloc (.cells #[.string ⟨#[]⟩, .int .i64 0, .int .i64 0] 29))) := Lib.hid ((Below.refl _ _).alloc (Nat.le_refl _) _)
          go_enter Tryd.func16, Tryd.ntmps16
          go_wp2_with fail
          refine (l01Split_any s 32 32 rfl _ hs).mono ?_
          rintro e w1 ⟨v, rfl, hown1, hb1⟩
          obtain ⟨g, cap, rfl⟩ := Go.Joins.ownsRow_form hown1 HP.out
          have hgl := (hown1.lt g rfl).2
          have Z1 := Lib.hid (Z0.out.go hb1)
          have HB1 := Lib.hid (hb0.out.trans (hb1.mono hb0.out.size))
          rw [bs_len] at hown1 ⊢
          clear hb1 hb0 Z0
          simp only [hx, List.length_cons, List.length_nil] at hown1 ⊢
          obtain ⟨d0, d1⟩ := words_atD hown1
          clear hown1
          go_wp2_with fail
          refine (specList_any ⟨t.toArray⟩ w1 hts).mono ?_
          rintro e w2 ⟨v2, rfl, hown2, hb2⟩
          rw [data_ofD, hr] at hown2 ⊢
          have Z2 := Lib.hid (Z1.out.go hb2)
          have HB2 := Lib.hid (HB1.out.trans (hb2.mono HB1.out.size))
          have e0 := ((bcell hb2).1 g 0 hgl).trans d0
          clear hb2 d0 d1 Z1 HB1
          simp only [Option.isSome_some, Option.getD_some] at hown2 ⊢
          obtain ⟨gg, cap2, rfl⟩ := Go.Joins.ownsRow_form hown2 (by simp)
          obtain ⟨m0, m1⟩ := nums_atD hown2
          clear hown2 hr hx
          rw [← NS.out] at e0
          have KK : Hid (w2.cell? ⟨g, 0, none⟩ = some (.string ns) ∧ w2.cell? ⟨gg, 0, none⟩ = some (.int .i64 a) ∧ w2.cell? ⟨gg, 1, none⟩ = some (.int .i64 b) ∧ Below w2.heap.size w2 w2) := Lib.hid ⟨e0, m0, m1, Below.refl _ _⟩
          go_upto_region 7 with fail
          go_cut [7] from 8 (fun s7 wx => ∃ r : Nat, s7 = .pointer (some ⟨r, 0, none⟩) ∧ Hid (DZ wx r ns a b) ∧ Hid (Below w2.heap.size w2 wx))
          case first =>
            go_region_held3 (fun w' => w'.cell? ⟨g, 0, none⟩ = some (.string ns) ∧ w'.cell? ⟨gg, 0, none⟩ = some (.int .i64 a) ∧ w'.cell? ⟨gg, 1, none⟩ = some (.int .i64 b) ∧ Below w2.heap.size w2 w') (first | (exact keepWD KK.out (bel_drew (Below.refl _ _))) | (exact keepWD KK.out ((bel_drew (Below.refl _ _)).alloc (Nat.le_refl _) _)) | (exact keepWD KK.out (bel_drew ((Below.refl _ _).alloc (Nat.le_refl _) _))) | go_keep) (fail)
            all_goals
              rename_i held
              have S1 := Lib.hid held.2.2.2
              clear held
              go_wp2_with fail
              go_meet
              case rel => first | exact ⟨_, rfl, Lib.hid (DZ.new _ _ _ _ _), S1⟩ | exact ⟨_, rfl, Lib.hid (DZ.drew (DZ.new _ _ _ _ _)), S1⟩
          case rest =>
            obtain ⟨r, rfl, CQ, S2⟩ := hcut
            have Z3 := Lib.hid (Z2.out.go S2.out)
            have HB3 := Lib.hid (HB2.out.trans (S2.out.mono HB2.out.size))
            obtain ⟨v0, v1, v2, _, _, _⟩ := CQ.out
            clear e0 m0 m1 KK
            obtain ⟨q0, q1, q2, f0, f1, f2⟩ := Z3.out
            go_wp2_with fail
            refine (V.out _ _ v0 v1 v2).mono ?_
            rintro e w' ⟨rfl, rfl⟩
            go_wp2_with fail
            refine bodyPost_ret (v := .tuple #[.agg #[.string ⟨#[]⟩, .int .i64 0, .int .i64 0], .bool false]) (by first | (simp [results, Tryd.results16, go_sem]; done) | (simp [results, Tryd.results16, go_sem, *]; done)) rfl ⟨rfl, ?_⟩
            repeat (first | exact Below.refl _ _ | exact HB3.out | refine Below.setCell ?_ (by first | (simp; done) | omega | (simp; omega)) _ | refine Below.alloc ?_ (by first | (simp; done) | omega | (simp; omega)) _ | refine bel_drew ?_)
      · rw [RB (by rw [hr]; intro a b h; apply hl; cases h; rfl)]
        clear RA RB
        have hl' : ((zs.length : Int) == 2) = false := by simp; omega
        have hl2 : ¬ (zs.length : Int) = 2 := by omega
        have Z0 : Hid (DZ (w.alloc (.cells #[.string ⟨#[]⟩, .int .i64 0, .int .i64 0] 29)) w.heap.size ⟨#[]⟩ 0 0) := Lib.hid (DZ.new _ _ _ _ _)
        have hb0 : Hid (Below w.heap.size w (w.alloc (.cells #[.string ⟨#[]⟩, .int .i64 0, .int .i64 0] 29))) := Lib.hid ((Below.refl _ _).alloc (Nat.le_refl _) _)
        go_enter Tryd.func16, Tryd.ntmps16
        go_wp2_with fail
        refine (l01Split_any s 32 32 rfl _ hs).mono ?_
        rintro e w1 ⟨v, rfl, hown1, hb1⟩
        obtain ⟨g, cap, rfl⟩ := Go.Joins.ownsRow_form hown1 HP.out
        have hgl := (hown1.lt g rfl).2
        have Z1 := Lib.hid (Z0.out.go hb1)
        have HB1 := Lib.hid (hb0.out.trans (hb1.mono hb0.out.size))
        rw [bs_len] at hown1 ⊢
        clear hb1 hb0 Z0
        simp only [hx, List.length_cons, List.length_nil] at hown1 ⊢
        obtain ⟨d0, d1⟩ := words_atD hown1
        clear hown1
        go_wp2_with fail
        refine (specList_any ⟨t.toArray⟩ w1 hts).mono ?_
        rintro e w2 ⟨v2, rfl, hown2, hb2⟩
        rw [data_ofD, hr] at hown2 ⊢
        have Z2 := Lib.hid (Z1.out.go hb2)
        have HB2 := Lib.hid (HB1.out.trans (hb2.mono HB1.out.size))
        have e0 := ((bcell hb2).1 g 0 hgl).trans d0
        clear hb2 d0 d1 Z1 HB1
        simp only [Option.isSome_some, Option.getD_some] at hown2 ⊢
        rcases Go.Joins.ownsRow_forms hown2 with ⟨rfl, hz⟩ | ⟨gg, cap2, rfl⟩
        · have HO := Lib.hid hown2
          clear hown2
          obtain ⟨q0, q1, q2, f0, f1, f2⟩ := Z2.out
          go_wp2_with fail
          refine bodyPost_ret (v := .tuple #[.agg #[.string ⟨#[]⟩, .int .i64 0, .int .i64 0], .bool false]) (by first | (simp [results, Tryd.results16, go_sem]; done) | (simp [results, Tryd.results16, go_sem, *]; done)) rfl ⟨rfl, ?_⟩
          repeat (first | exact Below.refl _ _ | exact HB2.out | refine Below.setCell ?_ (by first | (simp; done) | omega | (simp; omega)) _ | refine Below.alloc ?_ (by first | (simp; done) | omega | (simp; omega)) _ | refine bel_drew ?_)
        · have HO := Lib.hid hown2
          clear hown2
          obtain ⟨q0, q1, q2, f0, f1, f2⟩ := Z2.out
          go_wp2_with fail
          refine bodyPost_ret (v := .tuple #[.agg #[.string ⟨#[]⟩, .int .i64 0, .int .i64 0], .bool false]) (by first | (simp [results, Tryd.results16, go_sem]; done) | (simp [results, Tryd.results16, go_sem, *]; done)) rfl ⟨rfl, ?_⟩
          repeat (first | exact Below.refl _ _ | exact HB2.out | refine Below.setCell ?_ (by first | (simp; done) | omega | (simp; omega)) _ | refine Below.alloc ?_ (by first | (simp; done) | omega | (simp; omega)) _ | refine bel_drew ?_)
  · rw [rdV_len _ hl]
    have hl' : (((spl 32 s.data.toList).length : Int) == 2) = false := by simp; omega
    have hl2 : ¬ ((spl 32 s.data.toList).length : Int) = 2 := by omega
    clear PS
    have Z0 : Hid (DZ (w.alloc (.cells #[.string ⟨#[]⟩, .int .i64 0, .int .i64 0] 29)) w.heap.size ⟨#[]⟩ 0 0) := Lib.hid (DZ.new _ _ _ _ _)
    have hb0 : Hid (Below w.heap.size w (w.alloc (.cells #[.string ⟨#[]⟩, .int .i64 0, .int .i64 0] 29))) := Lib.hid ((Below.refl _ _).alloc (Nat.le_refl _) _)
    go_enter Tryd.func16, Tryd.ntmps16
    go_wp2_with fail
    refine (l01Split_any s 32 32 rfl _ hs).mono ?_
    rintro e w1 ⟨v, rfl, hown1, hb1⟩
    obtain ⟨g, cap, rfl⟩ := Go.Joins.ownsRow_form hown1 HP.out
    have hgl := (hown1.lt g rfl).2
    have Z1 := Lib.hid (Z0.out.go hb1)
    have HB1 := Lib.hid (hb0.out.trans (hb1.mono hb0.out.size))
    rw [bs_len] at hown1 ⊢
    clear hb1 hb0 Z0
    generalize (spl 32 s.data.toList).length = len at *
    have HO := Lib.hid hown1
    clear hown1
    obtain ⟨q0, q1, q2, f0, f1, f2⟩ := Z1.out
    go_wp2_with fail
    refine bodyPost_ret (v := .tuple #[.agg #[.string ⟨#[]⟩, .int .i64 0, .int .i64 0], .bool false]) (by first | (simp [results, Tryd.results16, go_sem]; done) | (simp [results, Tryd.results16, go_sem, *]; done)) rfl ⟨rfl, ?_⟩
    repeat (first | exact Below.refl _ _ | exact HB1.out | refine Below.setCell ?_ (by first | (simp; done) | omega | (simp; omega)) _ | refine Below.alloc ?_ (by first | (simp; done) | omega | (simp; omega)) _ | refine bel_drew ?_)

end Go.Proofs.YtkfhjmkodcahpaaDoor
