/-
  Vectors read from texts: the contracts of ReadVector (packages spec and impl).
-/
import Derived.Test.YtmemmbealfghcaaDoorText
import Derived.Test.YtmemmbealfghcaaDoorNums
import Derived.Test.YtmemmbealfghcaaDoorVec
import Derived.Deep.RegionHeld3
import Derived.Deep.Cut
namespace Go.Proofs.YtmemmbealfghcaaDoor
open Go.RowKit
set_option linter.unusedVariables false

/-- The vector with a text. -/
def rvV (l : List UInt8) : Value :=
  match listR l with
  | some [a, b, c] => if okV a b c = true then .tuple #[.agg #[.int .i64 a, .int .i64 b, .int .i64 c], .bool true] else .tuple #[.agg #[.int .i64 0, .int .i64 0, .int .i64 0], .bool false]
  | _ => .tuple #[.agg #[.int .i64 0, .int .i64 0, .int .i64 0], .bool false]
theorem rvV_form (l : List UInt8) : ∃ (a b c : Int) (ok : Bool), rvV l = .tuple #[.agg #[.int .i64 a, .int .i64 b, .int .i64 c], .bool ok] := by
  unfold rvV
  split
  · split <;> exact ⟨_, _, _, _, rfl⟩
  · exact ⟨_, _, _, _, rfl⟩
theorem rvV_bad (l : List UInt8) (k : ∀ a b c, listR l ≠ some [a, b, c]) : rvV l = .tuple #[.agg #[.int .i64 0, .int .i64 0, .int .i64 0], .bool false] := by
  unfold rvV
  split
  · rename_i e; exact absurd e (k _ _ _)
  · rfl
theorem rvV_at (l : List UInt8) (a b c : Int) (k : listR l = some [a, b, c]) : rvV l = if okV a b c = true then .tuple #[.agg #[.int .i64 a, .int .i64 b, .int .i64 c], .bool true] else .tuple #[.agg #[.int .i64 0, .int .i64 0, .int .i64 0], .bool false] := by
  unfold rvV
  rw [k]
/-- A vector in a block of its own, that may be written. -/
structure V3 (w : World) (g : Nat) (a b c : Int) : Prop where
  c0 : w.cell? ⟨g, 0, none⟩ = some (.int .i64 a)
  c1 : w.cell? ⟨g, 1, none⟩ = some (.int .i64 b)
  c2 : w.cell? ⟨g, 2, none⟩ = some (.int .i64 c)
  f0 : w.frozen? ⟨g, 0, none⟩ = false
  f1 : w.frozen? ⟨g, 1, none⟩ = false
  f2 : w.frozen? ⟨g, 2, none⟩ = false
theorem V3.inn {w : World} {g : Nat} {a b c : Int} (h : V3 w g a b c) : g < w.heap.size := World.block_lt_of_cell? w ⟨g, 0, none⟩ h.c0
theorem V3.go {w w' : World} {g : Nat} {a b c : Int} (h : V3 w g a b c) (hb : Below w.heap.size w w') : V3 w' g a b c := by
  obtain ⟨k1, k2⟩ := bcell hb
  have hg := h.inn
  exact ⟨(k1 g 0 hg).trans h.c0, (k1 g 1 hg).trans h.c1, (k1 g 2 hg).trans h.c2, (k2 g 0 hg).trans h.f0, (k2 g 1 hg).trans h.f1, (k2 g 2 hg).trans h.f2⟩
theorem V3.new (w : World) (T : TypeId) (a b c : Int) : V3 (w.alloc (.cells #[.int .i64 a, .int .i64 b, .int .i64 c] T)) w.heap.size a b c := ⟨by simp, by simp, by simp, by simp, by simp, by simp⟩
theorem V3.drew {w : World} {g : Nat} {a b c : Int} (h : V3 w g a b c) : V3 w.drew g a b c := ⟨h.c0, h.c1, h.c2, h.f0, h.f1, h.f2⟩
theorem V3.alloc {w : World} {g : Nat} {a b c : Int} (h : V3 w g a b c) (o : Obj) : V3 (w.alloc o) g a b c := h.go ((Below.refl _ _).alloc (Nat.le_refl _) o)
theorem V3.set {w : World} {g : Nat} {a b c : Int} (h : V3 w g a b c) (p q r : Int) : V3 (((w.setCell ⟨g, 0, none⟩ (.int .i64 p)).setCell ⟨g, 1, none⟩ (.int .i64 q)).setCell ⟨g, 2, none⟩ (.int .i64 r)) g p q r := by
  have h1 : V3 (w.setCell ⟨g, 0, none⟩ (.int .i64 p)) g p b c := ⟨by rw [World.cell?_setCell_same (h := h.c0)], by rw [World.cell?_setCell_other (h := by simp)]; exact h.c1, by rw [World.cell?_setCell_other (h := by simp)]; exact h.c2, by simp [h.f0], by simp [h.f1], by simp [h.f2]⟩
  have h2 : V3 ((w.setCell ⟨g, 0, none⟩ (.int .i64 p)).setCell ⟨g, 1, none⟩ (.int .i64 q)) g p q c := ⟨by rw [World.cell?_setCell_other (h := by simp)]; exact h1.c0, by rw [World.cell?_setCell_same (h := h1.c1)], by rw [World.cell?_setCell_other (h := by simp)]; exact h1.c2, by simp [h1.f0], by simp [h1.f1], by simp [h1.f2]⟩
  exact ⟨by rw [World.cell?_setCell_other (h := by simp)]; exact h2.c0, by rw [World.cell?_setCell_other (h := by simp)]; exact h2.c1, by rw [World.cell?_setCell_same (h := h2.c2)], by simp [h2.f0], by simp [h2.f1], by simp [h2.f2]⟩
theorem nums_at {w : World} {B g cap : Nat} {a b c : Int} (h : w.ownsRow B 2 1 (.slice (some ⟨g, 0, none⟩) 3 cap) 3 ([a, b, c].map (Value.int .i64))) : w.cell? ⟨g, 0, none⟩ = some (.int .i64 a) ∧ w.cell? ⟨g, 1, none⟩ = some (.int .i64 b) ∧ w.cell? ⟨g, 2, none⟩ = some (.int .i64 c) :=
  ⟨by rw [h.cellAt 0 (by omega)]; rfl, by rw [h.cellAt 1 (by omega)]; rfl, by rw [h.cellAt 2 (by omega)]; rfl⟩
theorem keepV3 {w W W' : World} {h : Nat} {u0 u1 u2 : Value} (k : W.cell? ⟨h, 0, none⟩ = some u0 ∧ W.cell? ⟨h, 1, none⟩ = some u1 ∧ W.cell? ⟨h, 2, none⟩ = some u2 ∧ Below w.heap.size w W) (hb : Below W.heap.size W W') :
    W'.cell? ⟨h, 0, none⟩ = some u0 ∧ W'.cell? ⟨h, 1, none⟩ = some u1 ∧ W'.cell? ⟨h, 2, none⟩ = some u2 ∧ Below w.heap.size w W' := by
  obtain ⟨h1, h2, h3, hB⟩ := k
  have l1 := World.block_lt_of_cell? W ⟨h, 0, none⟩ h1
  obtain ⟨c, _⟩ := bcell hb
  exact ⟨(c _ _ l1).trans h1, (c _ _ l1).trans h2, (c _ _ l1).trans h3, hB.trans (hb.mono hB.size)⟩

set_option maxRecDepth 100000 in
set_option maxHeartbeats 4000000 in
theorem specRV_any (s : ByteArray) (hs : s.size ≤ 1048576) (w : World) :
    Calls Tryd.prog 5 #[.string s] w fun e w' => e = .returned (rvV s.data.toList) ∧ Below w.heap.size w w' := by
  have RB := rvV_bad s.data.toList
  have RA := rvV_at s.data.toList
  cases hr : listR s.data.toList with
  | none =>
    rw [RB (by rw [hr]; intro a b c h; cases h)]
    clear RA RB
    have Z0 : Hid (V3 (w.alloc (.cells #[.int .i64 0, .int .i64 0, .int .i64 0] 23)) w.heap.size 0 0 0) := Lib.hid (V3.new _ _ _ _ _)
    have hb0 : Hid (Below w.heap.size w (w.alloc (.cells #[.int .i64 0, .int .i64 0, .int .i64 0] 23))) := Lib.hid ((Below.refl _ _).alloc (Nat.le_refl _) _)
    go_enter Tryd.func5, Tryd.ntmps5
    go_wp2_with fail
    refine (specList_any s _ hs).mono ?_
    rintro e w1 ⟨v, rfl, hown, hb1⟩
    have Z1 := Lib.hid (Z0.out.go hb1)
    have HB1 := Lib.hid (hb0.out.trans (hb1.mono hb0.out.size))
    clear hb1 hb0 Z0
    rw [hr] at hown ⊢
    simp only [Option.isSome_none, Option.getD_none, List.map_nil, List.length_nil] at hown ⊢
    have HO := Lib.hid hown
    clear hown
    obtain ⟨q0, q1, q2, f0, f1, f2⟩ := Z1.out
    go_wp2_with fail
    refine bodyPost_ret (v := .tuple #[.agg #[.int .i64 0, .int .i64 0, .int .i64 0], .bool false]) (by first | (simp [results, Tryd.results5, go_sem]; done) | (simp [results, Tryd.results5, go_sem, *]; done)) rfl ⟨rfl, ?_⟩
    repeat (first | exact Below.refl _ _ | exact HB1.out | refine Below.setCell ?_ (by first | (simp; done) | omega | (simp; omega)) _ | refine Below.alloc ?_ (by first | (simp; done) | omega | (simp; omega)) _ | refine bel_drew ?_)
  | some zs =>
    by_cases hl : zs.length = 3
    · obtain ⟨a, b, c, rfl⟩ : ∃ a b c, zs = [a, b, c] := by
        match zs, hl with
        | [a, b, c], _ => exact ⟨a, b, c, rfl⟩
      rw [RA a b c hr]
      clear RA RB hl
      have V := Lib.hid (fun w => l04Ok_any a b c w)
      have hok : okV a b c = true ∨ okV a b c = false := by cases okV a b c <;> simp
      rcases hok with hv | hv
      · rw [hv] at V
        rw [hv]
        simp only [if_true]
        clear hv
        have Z0 : Hid (V3 (w.alloc (.cells #[.int .i64 0, .int .i64 0, .int .i64 0] 23)) w.heap.size 0 0 0) := Lib.hid (V3.new _ _ _ _ _)
        have hb0 : Hid (Below w.heap.size w (w.alloc (.cells #[.int .i64 0, .int .i64 0, .int .i64 0] 23))) := Lib.hid ((Below.refl _ _).alloc (Nat.le_refl _) _)
        go_enter Tryd.func5, Tryd.ntmps5
        go_wp2_with fail
        refine (specList_any s _ hs).mono ?_
        rintro e w1 ⟨v, rfl, hown, hb1⟩
        have Z1 := Lib.hid (Z0.out.go hb1)
        have HB1 := Lib.hid (hb0.out.trans (hb1.mono hb0.out.size))
        clear hb1 hb0 Z0
        rw [hr] at hown ⊢
        simp only [Option.isSome_some, Option.getD_some] at hown ⊢
        obtain ⟨gg, cap, rfl⟩ := Go.Joins.ownsRow_form hown (by simp)
        obtain ⟨m0, m1, m2⟩ := nums_at hown
        have KK : Hid (w1.cell? ⟨gg, 0, none⟩ = some (.int .i64 a) ∧ w1.cell? ⟨gg, 1, none⟩ = some (.int .i64 b) ∧ w1.cell? ⟨gg, 2, none⟩ = some (.int .i64 c) ∧ Below w1.heap.size w1 w1) := Lib.hid ⟨m0, m1, m2, Below.refl _ _⟩
        clear hown hr
        go_upto_region 4 with fail
        go_cut [6] from 7 (fun s6 wx => ∃ r : Nat, s6 = .pointer (some ⟨r, 0, none⟩) ∧ Hid (V3 wx r a b c) ∧ Hid (Below w1.heap.size w1 wx))
        case first =>
          go_region_held3 (fun w' => w'.cell? ⟨gg, 0, none⟩ = some (.int .i64 a) ∧ w'.cell? ⟨gg, 1, none⟩ = some (.int .i64 b) ∧ w'.cell? ⟨gg, 2, none⟩ = some (.int .i64 c) ∧ Below w1.heap.size w1 w') (first | (exact keepV3 KK.out (bel_drew (Below.refl _ _))) | (exact keepV3 KK.out ((bel_drew (Below.refl _ _)).alloc (Nat.le_refl _) _)) | (exact keepV3 KK.out (bel_drew ((Below.refl _ _).alloc (Nat.le_refl _) _))) | go_keep) (fail)
          all_goals
            rename_i held
            have S1 := Lib.hid held.2.2.2
            clear held
            go_wp2_with fail
            go_meet
            case rel => first | exact ⟨_, rfl, Lib.hid (V3.new _ _ _ _ _), S1⟩ | exact ⟨_, rfl, Lib.hid (V3.drew (V3.new _ _ _ _ _)), S1⟩ | exact ⟨_, rfl, Lib.hid (V3.set (V3.new _ _ _ _ _) _ _ _), S1⟩
        case rest =>
          obtain ⟨r, rfl, CQ, S2⟩ := hcut
          have hl2 := CQ.out.inn
          have Z2 := Lib.hid (Z1.out.go S2.out)
          have HB2 := Lib.hid (HB1.out.trans (S2.out.mono HB1.out.size))
          obtain ⟨v0, v1, v2, _, _, _⟩ := CQ.out
          clear m0 m1 m2 KK
          go_wp2_with fail
          refine (V.out _).mono ?_
          rintro e w3 ⟨rfl, hb3⟩
          have Z3 := Lib.hid (Z2.out.go hb3)
          have C3' := Lib.hid (CQ.out.go hb3)
          have HB3 := Lib.hid (HB2.out.trans (hb3.mono HB2.out.size))
          clear hb3 v0 v1 v2
          obtain ⟨v0, v1, v2, _, _, _⟩ := C3'.out
          obtain ⟨q0, q1, q2, f0, f1, f2⟩ := Z3.out
          go_wp2_with fail
          refine bodyPost_ret (v := .tuple #[.agg #[.int .i64 a, .int .i64 b, .int .i64 c], .bool true]) (by first | (simp [results, Tryd.results5, go_sem]; done) | (simp [results, Tryd.results5, go_sem, *]; done)) rfl ⟨rfl, ?_⟩
          repeat (first | exact Below.refl _ _ | exact HB3.out | refine Below.setCell ?_ (by first | (simp; done) | omega | (simp; omega)) _ | refine Below.alloc ?_ (by first | (simp; done) | omega | (simp; omega)) _ | refine bel_drew ?_)
      · rw [hv] at V
        rw [hv]
        simp only [Bool.false_eq_true, if_false]
        clear hv
        have Z0 : Hid (V3 (w.alloc (.cells #[.int .i64 0, .int .i64 0, .int .i64 0] 23)) w.heap.size 0 0 0) := Lib.hid (V3.new _ _ _ _ _)
        have hb0 : Hid (Below w.heap.size w (w.alloc (.cells #[.int .i64 0, .int .i64 0, .int .i64 0] 23))) := Lib.hid ((Below.refl _ _).alloc (Nat.le_refl _) _)
        go_enter Tryd.func5, Tryd.ntmps5
        go_wp2_with fail
        refine (specList_any s _ hs).mono ?_
        rintro e w1 ⟨v, rfl, hown, hb1⟩
        have Z1 := Lib.hid (Z0.out.go hb1)
        have HB1 := Lib.hid (hb0.out.trans (hb1.mono hb0.out.size))
        clear hb1 hb0 Z0
        rw [hr] at hown ⊢
        simp only [Option.isSome_some, Option.getD_some] at hown ⊢
        obtain ⟨gg, cap, rfl⟩ := Go.Joins.ownsRow_form hown (by simp)
        obtain ⟨m0, m1, m2⟩ := nums_at hown
        have KK : Hid (w1.cell? ⟨gg, 0, none⟩ = some (.int .i64 a) ∧ w1.cell? ⟨gg, 1, none⟩ = some (.int .i64 b) ∧ w1.cell? ⟨gg, 2, none⟩ = some (.int .i64 c) ∧ Below w1.heap.size w1 w1) := Lib.hid ⟨m0, m1, m2, Below.refl _ _⟩
        clear hown hr
        go_upto_region 4 with fail
        go_cut [6] from 7 (fun s6 wx => ∃ r : Nat, s6 = .pointer (some ⟨r, 0, none⟩) ∧ Hid (V3 wx r a b c) ∧ Hid (Below w1.heap.size w1 wx))
        case first =>
          go_region_held3 (fun w' => w'.cell? ⟨gg, 0, none⟩ = some (.int .i64 a) ∧ w'.cell? ⟨gg, 1, none⟩ = some (.int .i64 b) ∧ w'.cell? ⟨gg, 2, none⟩ = some (.int .i64 c) ∧ Below w1.heap.size w1 w') (first | (exact keepV3 KK.out (bel_drew (Below.refl _ _))) | (exact keepV3 KK.out ((bel_drew (Below.refl _ _)).alloc (Nat.le_refl _) _)) | (exact keepV3 KK.out (bel_drew ((Below.refl _ _).alloc (Nat.le_refl _) _))) | go_keep) (fail)
          all_goals
            rename_i held
            have S1 := Lib.hid held.2.2.2
            clear held
            go_wp2_with fail
            go_meet
            case rel => first | exact ⟨_, rfl, Lib.hid (V3.new _ _ _ _ _), S1⟩ | exact ⟨_, rfl, Lib.hid (V3.drew (V3.new _ _ _ _ _)), S1⟩ | exact ⟨_, rfl, Lib.hid (V3.set (V3.new _ _ _ _ _) _ _ _), S1⟩
        case rest =>
          obtain ⟨r, rfl, CQ, S2⟩ := hcut
          have hl2 := CQ.out.inn
          have Z2 := Lib.hid (Z1.out.go S2.out)
          have HB2 := Lib.hid (HB1.out.trans (S2.out.mono HB1.out.size))
          obtain ⟨v0, v1, v2, _, _, _⟩ := CQ.out
          clear m0 m1 m2 KK
          go_wp2_with fail
          refine (V.out _).mono ?_
          rintro e w3 ⟨rfl, hb3⟩
          have Z3 := Lib.hid (Z2.out.go hb3)
          have C3' := Lib.hid (CQ.out.go hb3)
          have HB3 := Lib.hid (HB2.out.trans (hb3.mono HB2.out.size))
          clear hb3 v0 v1 v2
          obtain ⟨v0, v1, v2, _, _, _⟩ := C3'.out
          obtain ⟨q0, q1, q2, f0, f1, f2⟩ := Z3.out
          go_wp2_with fail
          refine bodyPost_ret (v := .tuple #[.agg #[.int .i64 0, .int .i64 0, .int .i64 0], .bool false]) (by first | (simp [results, Tryd.results5, go_sem]; done) | (simp [results, Tryd.results5, go_sem, *]; done)) rfl ⟨rfl, ?_⟩
          repeat (first | exact Below.refl _ _ | exact HB3.out | refine Below.setCell ?_ (by first | (simp; done) | omega | (simp; omega)) _ | refine Below.alloc ?_ (by first | (simp; done) | omega | (simp; omega)) _ | refine bel_drew ?_)
    · rw [RB (by rw [hr]; intro a b c h; apply hl; cases h; rfl)]
      clear RA RB
      have hl' : ((zs.length : Int) == 3) = false := by simp; omega
      have hl2 : ¬ (zs.length : Int) = 3 := by omega
      have Z0 : Hid (V3 (w.alloc (.cells #[.int .i64 0, .int .i64 0, .int .i64 0] 23)) w.heap.size 0 0 0) := Lib.hid (V3.new _ _ _ _ _)
      have hb0 : Hid (Below w.heap.size w (w.alloc (.cells #[.int .i64 0, .int .i64 0, .int .i64 0] 23))) := Lib.hid ((Below.refl _ _).alloc (Nat.le_refl _) _)
      go_enter Tryd.func5, Tryd.ntmps5
      go_wp2_with fail
      refine (specList_any s _ hs).mono ?_
      rintro e w1 ⟨v, rfl, hown, hb1⟩
      have Z1 := Lib.hid (Z0.out.go hb1)
      have HB1 := Lib.hid (hb0.out.trans (hb1.mono hb0.out.size))
      clear hb1 hb0 Z0
      rw [hr] at hown ⊢
      simp only [Option.isSome_some, Option.getD_some] at hown ⊢
      rcases Go.Joins.ownsRow_forms hown with ⟨rfl, hz⟩ | ⟨gg, cap, rfl⟩
      · have HO := Lib.hid hown
        clear hown
        obtain ⟨q0, q1, q2, f0, f1, f2⟩ := Z1.out
        go_wp2_with fail
        refine bodyPost_ret (v := .tuple #[.agg #[.int .i64 0, .int .i64 0, .int .i64 0], .bool false]) (by first | (simp [results, Tryd.results5, go_sem]; done) | (simp [results, Tryd.results5, go_sem, *]; done)) rfl ⟨rfl, ?_⟩
        repeat (first | exact Below.refl _ _ | exact HB1.out | refine Below.setCell ?_ (by first | (simp; done) | omega | (simp; omega)) _ | refine Below.alloc ?_ (by first | (simp; done) | omega | (simp; omega)) _ | refine bel_drew ?_)
      · have HO := Lib.hid hown
        clear hown
        obtain ⟨q0, q1, q2, f0, f1, f2⟩ := Z1.out
        go_wp2_with fail
        refine bodyPost_ret (v := .tuple #[.agg #[.int .i64 0, .int .i64 0, .int .i64 0], .bool false]) (by first | (simp [results, Tryd.results5, go_sem]; done) | (simp [results, Tryd.results5, go_sem, *]; done)) rfl ⟨rfl, ?_⟩
        repeat (first | exact Below.refl _ _ | exact HB1.out | refine Below.setCell ?_ (by first | (simp; done) | omega | (simp; omega)) _ | refine Below.alloc ?_ (by first | (simp; done) | omega | (simp; omega)) _ | refine bel_drew ?_)

theorem rvV_num (l : List UInt8) : (listN 3 l = none ∧ rvV l = .tuple #[.agg #[.int .i64 0, .int .i64 0, .int .i64 0], .bool false]) ∨ (∃ a b c, listN 3 l = some [a, b, c] ∧ rvV l = if okV a b c = true then .tuple #[.agg #[.int .i64 a, .int .i64 b, .int .i64 c], .bool true] else .tuple #[.agg #[.int .i64 0, .int .i64 0, .int .i64 0], .bool false]) := by
  unfold listN
  cases hr : listR l with
  | none => exact Or.inl ⟨rfl, rvV_bad l (by rw [hr]; intro a b c h; cases h)⟩
  | some zs =>
    by_cases hl : zs.length = 3
    · obtain ⟨a, b, c, rfl⟩ : ∃ a b c, zs = [a, b, c] := by
        match zs, hl with
        | [a, b, c], _ => exact ⟨a, b, c, rfl⟩
      exact Or.inr ⟨a, b, c, by simp, rvV_at l a b c hr⟩
    · exact Or.inl ⟨by simp only [if_neg hl], rvV_bad l (by rw [hr]; intro a b c h; apply hl; cases h; rfl)⟩
set_option maxRecDepth 100000 in
set_option maxHeartbeats 4000000 in
theorem implRV_any (s : ByteArray) (hs : s.size ≤ 1048576) (w : World) (ht : TabOK w) (he : ErrOK w) (hlen : LenOK w) :
    Calls Tryd.prog 6 #[.string s] w fun e w' => e = .returned (rvV s.data.toList) ∧ Below w.heap.size w w' := by
  have RN := Lib.hid (fun w ht he hl => readNums_any s 3 (by omega) hs w ht he hl)
  have CC := rvV_num s.data.toList
  have Z0 : Hid (V3 (w.alloc (.cells #[.int .i64 0, .int .i64 0, .int .i64 0] 23)) w.heap.size 0 0 0) := Lib.hid (V3.new _ _ _ _ _)
  have hb0 : Hid (Below w.heap.size w (w.alloc (.cells #[.int .i64 0, .int .i64 0, .int .i64 0] 23))) := Lib.hid ((Below.refl _ _).alloc (Nat.le_refl _) _)
  have T0 := Lib.hid (ht.below hb0.out)
  have E0 := Lib.hid (he.below hb0.out)
  have L0 := Lib.hid (hlen.below hb0.out)
  clear ht he hlen
  generalize rvV s.data.toList = D at *
  generalize listN 3 s.data.toList = r at *
  rcases CC with ⟨hr, hD⟩ | ⟨a, b, c, hr, hD⟩
  · subst hr hD
    go_enter Tryd.func6, Tryd.ntmps6
    go_wp2_with fail
    refine (RN.out _ T0.out E0.out L0.out).mono ?_
    rintro e w1 ⟨v, rfl, hown, hb1⟩
    have Z1 := Lib.hid (Z0.out.go hb1)
    have HB1 := Lib.hid (hb0.out.trans (hb1.mono hb0.out.size))
    clear hb1 hb0 Z0
    simp only [Option.isSome_none, Option.getD_none, List.map_nil, List.length_nil] at hown ⊢
    have HO := Lib.hid hown
    clear hown
    obtain ⟨q0, q1, q2, f0, f1, f2⟩ := Z1.out
    go_wp2_with fail
    refine bodyPost_ret (v := .tuple #[.agg #[.int .i64 0, .int .i64 0, .int .i64 0], .bool false]) (by first | (simp [results, Tryd.results6, go_sem]; done) | (simp [results, Tryd.results6, go_sem, *]; done)) rfl ⟨rfl, ?_⟩
    repeat (first | exact Below.refl _ _ | exact HB1.out | refine Below.setCell ?_ (by first | (simp; done) | omega | (simp; omega)) _ | refine Below.alloc ?_ (by first | (simp; done) | omega | (simp; omega)) _ | refine bel_drew ?_)
  · subst hr
    have V := Lib.hid (fun w => validV_any a b c w)
    cases hv : okV a b c with
    | false =>
      rw [hv] at V hD
      simp only [Bool.false_eq_true, if_false] at hD
      subst hD
      clear hv
      go_enter Tryd.func6, Tryd.ntmps6
      go_wp2_with fail
      refine (RN.out _ T0.out E0.out L0.out).mono ?_
      rintro e w1 ⟨v, rfl, hown, hb1⟩
      have Z1 := Lib.hid (Z0.out.go hb1)
      have HB1 := Lib.hid (hb0.out.trans (hb1.mono hb0.out.size))
      clear hb1 hb0 Z0
      simp only [Option.isSome_some, Option.getD_some] at hown ⊢
      obtain ⟨gg, cap2, rfl⟩ := Go.Joins.ownsRow_form hown (by simp)
      obtain ⟨m0, m1, m2⟩ := nums_at hown
      clear hown
      have KK : Hid (w1.cell? ⟨gg, 0, none⟩ = some (.int .i64 a) ∧ w1.cell? ⟨gg, 1, none⟩ = some (.int .i64 b) ∧ w1.cell? ⟨gg, 2, none⟩ = some (.int .i64 c) ∧ Below w1.heap.size w1 w1) := Lib.hid ⟨m0, m1, m2, Below.refl _ _⟩
      go_upto_region 4 with fail
      go_cut [6] from 7 (fun s6 wx => ∃ q : Nat, s6 = .pointer (some ⟨q, 0, none⟩) ∧ Hid (V3 wx q a b c) ∧ Hid (Below w1.heap.size w1 wx))
      case first =>
        go_region_held3 (fun w' => w'.cell? ⟨gg, 0, none⟩ = some (.int .i64 a) ∧ w'.cell? ⟨gg, 1, none⟩ = some (.int .i64 b) ∧ w'.cell? ⟨gg, 2, none⟩ = some (.int .i64 c) ∧ Below w1.heap.size w1 w') (first | (exact keepV3 KK.out (bel_drew (Below.refl _ _))) | (exact keepV3 KK.out ((bel_drew (Below.refl _ _)).alloc (Nat.le_refl _) _)) | (exact keepV3 KK.out (bel_drew ((Below.refl _ _).alloc (Nat.le_refl _) _))) | go_keep) (fail)
        all_goals
          rename_i held
          have S1 := Lib.hid held.2.2.2
          clear held
          go_wp2_with fail
          go_meet
          case rel => first | exact ⟨_, rfl, Lib.hid (V3.new _ _ _ _ _), S1⟩ | exact ⟨_, rfl, Lib.hid (V3.drew (V3.new _ _ _ _ _)), S1⟩ | exact ⟨_, rfl, Lib.hid (V3.set (V3.new _ _ _ _ _) _ _ _), S1⟩
      case rest =>
        obtain ⟨q, rfl, CQ, S2⟩ := hcut
        have Z2 := Lib.hid (Z1.out.go S2.out)
        have HB2 := Lib.hid (HB1.out.trans (S2.out.mono HB1.out.size))
        obtain ⟨v0, v1, v2, _, _, _⟩ := CQ.out
        clear m0 m1 m2 KK
        go_wp2_with fail
        refine (V.out _).mono ?_
        rintro e w4 ⟨rfl, hb4⟩
        have Z4 := Lib.hid (Z2.out.go hb4)
        have C4 := Lib.hid (CQ.out.go hb4)
        have HB4 := Lib.hid (HB2.out.trans (hb4.mono HB2.out.size))
        clear hb4 v0 v1 v2
        obtain ⟨v0, v1, v2, _, _, _⟩ := C4.out
        obtain ⟨q0, q1, q2, f0, f1, f2⟩ := Z4.out
        go_wp2_with fail
        refine bodyPost_ret (v := .tuple #[.agg #[.int .i64 0, .int .i64 0, .int .i64 0], .bool false]) (by first | (simp [results, Tryd.results6, go_sem]; done) | (simp [results, Tryd.results6, go_sem, *]; done)) rfl ⟨rfl, ?_⟩
        repeat (first | exact Below.refl _ _ | exact HB4.out | refine Below.setCell ?_ (by first | (simp; done) | omega | (simp; omega)) _ | refine Below.alloc ?_ (by first | (simp; done) | omega | (simp; omega)) _ | refine bel_drew ?_)
    | true =>
      rw [hv] at V hD
      simp only [if_true] at hD
      subst hD
      clear hv
      go_enter Tryd.func6, Tryd.ntmps6
      go_wp2_with fail
      refine (RN.out _ T0.out E0.out L0.out).mono ?_
      rintro e w1 ⟨v, rfl, hown, hb1⟩
      have Z1 := Lib.hid (Z0.out.go hb1)
      have HB1 := Lib.hid (hb0.out.trans (hb1.mono hb0.out.size))
      clear hb1 hb0 Z0
      simp only [Option.isSome_some, Option.getD_some] at hown ⊢
      obtain ⟨gg, cap2, rfl⟩ := Go.Joins.ownsRow_form hown (by simp)
      obtain ⟨m0, m1, m2⟩ := nums_at hown
      clear hown
      have KK : Hid (w1.cell? ⟨gg, 0, none⟩ = some (.int .i64 a) ∧ w1.cell? ⟨gg, 1, none⟩ = some (.int .i64 b) ∧ w1.cell? ⟨gg, 2, none⟩ = some (.int .i64 c) ∧ Below w1.heap.size w1 w1) := Lib.hid ⟨m0, m1, m2, Below.refl _ _⟩
      go_upto_region 4 with fail
      go_cut [6] from 7 (fun s6 wx => ∃ q : Nat, s6 = .pointer (some ⟨q, 0, none⟩) ∧ Hid (V3 wx q a b c) ∧ Hid (Below w1.heap.size w1 wx))
      case first =>
        go_region_held3 (fun w' => w'.cell? ⟨gg, 0, none⟩ = some (.int .i64 a) ∧ w'.cell? ⟨gg, 1, none⟩ = some (.int .i64 b) ∧ w'.cell? ⟨gg, 2, none⟩ = some (.int .i64 c) ∧ Below w1.heap.size w1 w') (first | (exact keepV3 KK.out (bel_drew (Below.refl _ _))) | (exact keepV3 KK.out ((bel_drew (Below.refl _ _)).alloc (Nat.le_refl _) _)) | (exact keepV3 KK.out (bel_drew ((Below.refl _ _).alloc (Nat.le_refl _) _))) | go_keep) (fail)
        all_goals
          rename_i held
          have S1 := Lib.hid held.2.2.2
          clear held
          go_wp2_with fail
          go_meet
          case rel => first | exact ⟨_, rfl, Lib.hid (V3.new _ _ _ _ _), S1⟩ | exact ⟨_, rfl, Lib.hid (V3.drew (V3.new _ _ _ _ _)), S1⟩ | exact ⟨_, rfl, Lib.hid (V3.set (V3.new _ _ _ _ _) _ _ _), S1⟩
      case rest =>
        obtain ⟨q, rfl, CQ, S2⟩ := hcut
        have Z2 := Lib.hid (Z1.out.go S2.out)
        have HB2 := Lib.hid (HB1.out.trans (S2.out.mono HB1.out.size))
        obtain ⟨v0, v1, v2, _, _, _⟩ := CQ.out
        clear m0 m1 m2 KK
        go_wp2_with fail
        refine (V.out _).mono ?_
        rintro e w4 ⟨rfl, hb4⟩
        have Z4 := Lib.hid (Z2.out.go hb4)
        have C4 := Lib.hid (CQ.out.go hb4)
        have HB4 := Lib.hid (HB2.out.trans (hb4.mono HB2.out.size))
        clear hb4 v0 v1 v2
        obtain ⟨v0, v1, v2, _, _, _⟩ := C4.out
        obtain ⟨q0, q1, q2, f0, f1, f2⟩ := Z4.out
        go_wp2_with fail
        refine bodyPost_ret (v := .tuple #[.agg #[.int .i64 a, .int .i64 b, .int .i64 c], .bool true]) (by first | (simp [results, Tryd.results6, go_sem]; done) | (simp [results, Tryd.results6, go_sem, *]; done)) rfl ⟨rfl, ?_⟩
        repeat (first | exact Below.refl _ _ | exact HB4.out | refine Below.setCell ?_ (by first | (simp; done) | omega | (simp; omega)) _ | refine Below.alloc ?_ (by first | (simp; done) | omega | (simp; omega)) _ | refine bel_drew ?_)
end Go.Proofs.YtmemmbealfghcaaDoor
