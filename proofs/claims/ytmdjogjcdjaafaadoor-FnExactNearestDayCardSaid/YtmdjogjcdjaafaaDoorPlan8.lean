/-
  When planets go backwards: the contracts of both (for moments), daysLater, IsRetrograde (packages impl and spec).
-/
import Derived.Test.YtmdjogjcdjaafaaDoorPlan7
namespace Go.Proofs.YtmdjogjcdjaafaaDoor
open Go.RowKit
set_option linter.unusedVariables false

theorem set2' {u : World} {g : Nat} {p q : Int} (h : C2 u g p q) (a b : Int) : C2 ((u.setCell ⟨g, 0, none⟩ (.int .i64 a)).setCell ⟨g, 1, none⟩ (.int .i64 b)) g a b := (h.set0 a).set1 b
/-- What a planet's angle is said as. -/
def seeR (s : ByteArray) (a b c : Int) (t : ByteArray) (x y z d m : Int) : Int := if askP s a b c t x y z d m = 0 then dirI (wY a b c x y z d m) (wX a b c x y z d m) else 0
theorem seeV_eq (s : ByteArray) (a b c : Int) (t : ByteArray) (x y z d m : Int) : seeV s a b c t x y z d m = .tuple #[.int .i64 (seeR s a b c t x y z d m), .int .i64 (askP s a b c t x y z d m)] := by
  unfold seeV seeR
  by_cases h : askP s a b c t x y z d m = 0
  · rw [if_pos h, if_pos h, h]
  · rw [if_neg h, if_neg h]
theorem seeR_bd (s : ByteArray) (a b c : Int) (t : ByteArray) (x y z d m : Int) : 0 ≤ seeR s a b c t x y z d m ∧ seeR s a b c t x y z d m < 360000 := by
  unfold seeR
  have := dirI_bd (wY a b c x y z d m) (wX a b c x y z d m)
  split <;> omega
theorem seeR_0 (s : ByteArray) (a b c : Int) (t : ByteArray) (x y z d m : Int) (h : askP s a b c t x y z d m = 0) : seeR s a b c t x y z d m = dirI (wY a b c x y z d m) (wX a b c x y z d m) := by
  unfold seeR
  rw [if_pos h]
def bothV (r1 c1 r2 c2 : Int) : Value := if c1 = 0 then (if c2 = 0 then .tuple #[.agg #[.int .i64 r1, .int .i64 r2], .int .i64 0] else .tuple #[.agg #[.int .i64 0, .int .i64 0], .int .i64 c2]) else .tuple #[.agg #[.int .i64 0, .int .i64 0], .int .i64 c1]
theorem bothV_form (r1 c1 r2 c2 : Int) : ∃ p q k : Int, bothV r1 c1 r2 c2 = .tuple #[.agg #[.int .i64 p, .int .i64 q], .int .i64 k] := by
  unfold bothV
  split
  · split <;> exact ⟨_, _, _, rfl⟩
  · exact ⟨_, _, _, rfl⟩

set_option maxHeartbeats 1000000 in
theorem daysLater_any (d m k : Int) (w : World) :
    Calls Tryd.prog 51 #[.agg #[.int .i64 d, .int .i64 m], .int .i64 k] w fun e w' => e = .returned (.agg #[.int .i64 (wrap64 (d + k)), .int .i64 m]) ∧ Below w.heap.size w w' := by
  go_enter Tryd.func51, Tryd.ntmps51
  go_wp2_with fail
  refine bodyPost_ret (v := .agg #[.int .i64 (wrap64 (d + k)), .int .i64 m]) (by first | (simp [results, Tryd.results51, go_sem]; done) | (simp [results, Tryd.results51, go_sem]; done)) rfl ⟨rfl, ?_⟩
  repeat (first | exact Below.refl _ _ | refine Below.setCell ?_ (by first | (simp; done) | omega | (simp; omega)) _ | refine Below.alloc ?_ (by first | (simp; done) | omega | (simp; omega)) _ | refine bel_drew ?_)

set_option maxHeartbeats 2000000 in
theorem bothM_any (V : Array Value) (d m d' m' r1 c1 r2 c2 : Int) (h1 : ∀ W, SinesOK W → Calls Tryd.prog 35 #[.agg V, .agg #[.int .i64 d, .int .i64 m]] W fun e w' => e = .returned (.tuple #[.int .i64 r1, .int .i64 c1]) ∧ Below W.heap.size W w') (h2 : ∀ W, SinesOK W → Calls Tryd.prog 35 #[.agg V, .agg #[.int .i64 d', .int .i64 m']] W fun e w' => e = .returned (.tuple #[.int .i64 r2, .int .i64 c2]) ∧ Below W.heap.size W w') (w : World) (hs : SinesOK w) :
    Calls Tryd.prog 50 #[.agg #[.int .i64 d, .int .i64 m, .int .i64 d', .int .i64 m'], .func (.func 35) #[.agg V] #[]] w fun e w' => e = .returned (bothV r1 c1 r2 c2) ∧ Below w.heap.size w w' := by
  unfold bothV
  have H1 := Lib.hid h1
  have H2 := Lib.hid h2
  have E := Lib.hid hs
  clear h1 h2 hs
  by_cases e1 : c1 = 0
  · rw [if_pos e1]
    subst e1
    by_cases e2 : c2 = 0
    · rw [if_pos e2]
      subst e2
      obtain ⟨W0, hW0⟩ : ∃ W0, W0 = (w.alloc (.cells #[.int .i64 d, .int .i64 m, (.int .i64 d'), (.int .i64 m')] 65)).alloc (.cells #[.int .i64 0, .int .i64 0] 60) := ⟨_, rfl⟩
      have HB0 : Hid (Below w.heap.size w W0) := Lib.hid (by rw [hW0]; exact ((Below.refl _ _).alloc (Nat.le_refl _) _).alloc (by first | (simp; done) | (simp; omega)) _)
      have K0 : Hid (W0.cell? ⟨w.heap.size, 0, none⟩ = some (.int .i64 d) ∧ W0.cell? ⟨w.heap.size, 1, none⟩ = some (.int .i64 m) ∧ W0.cell? ⟨w.heap.size, 2, none⟩ = some ((.int .i64 d')) ∧ W0.cell? ⟨w.heap.size, 3, none⟩ = some ((.int .i64 m'))) := Lib.hid (by rw [hW0]; exact ⟨by rw [World.cell?_alloc_lt _ _ _ (by first | (simp; done) | (simp; omega))]; simp, by rw [World.cell?_alloc_lt _ _ _ (by first | (simp; done) | (simp; omega))]; simp, by rw [World.cell?_alloc_lt _ _ _ (by first | (simp; done) | (simp; omega))]; simp, by rw [World.cell?_alloc_lt _ _ _ (by first | (simp; done) | (simp; omega))]; simp⟩)
      have R0 : Hid (C2 W0 (w.heap.size + 1) 0 0) := Lib.hid (by rw [hW0]; simpa using C2.new (w.alloc (.cells #[.int .i64 d, .int .i64 m, (.int .i64 d'), (.int .i64 m')] 65)) 60 0 0)
      have HW := Lib.hid hW0
      clear hW0
      go_enter Tryd.func50, Tryd.ntmps50
      obtain ⟨k0, k1, k2, k3⟩ := K0.out
      go_wp2_with fail
      rw [← HW.out]
      clear HW
      refine (H1.out _ (E.out.below HB0.out)).mono ?_
      rintro e w1 ⟨rfl, hb⟩
      have lw := World.block_lt_of_cell? W0 ⟨w.heap.size, 0, none⟩ k0
      have HB1 := Lib.hid (HB0.out.trans (hb.mono HB0.out.size))
      have R1 := Lib.hid (R0.out.go hb)
      have K1 : Hid (w1.cell? ⟨w.heap.size, 0, none⟩ = some (.int .i64 d) ∧ w1.cell? ⟨w.heap.size, 1, none⟩ = some (.int .i64 m) ∧ w1.cell? ⟨w.heap.size, 2, none⟩ = some ((.int .i64 d')) ∧ w1.cell? ⟨w.heap.size, 3, none⟩ = some ((.int .i64 m'))) := Lib.hid ⟨((bcell hb).1 _ _ lw).trans k0, ((bcell hb).1 _ _ lw).trans k1, ((bcell hb).1 _ _ lw).trans k2, ((bcell hb).1 _ _ lw).trans k3⟩
      clear hb lw k0 k1 k2 k3
      obtain ⟨k0, k1, k2, k3⟩ := K1.out
      go_wp2_with fail
      refine (H2.out _ (E.out.below HB1.out)).mono ?_
      rintro e w2 ⟨rfl, hb⟩
      have HB2 := Lib.hid (HB1.out.trans (hb.mono HB1.out.size))
      have R2 := R1.out.go hb
      clear hb k0 k1 k2 k3
      obtain ⟨q0, q1, q2, q3⟩ := R2
      go_wp2_with fail
      refine bodyPost_ret (v := .tuple #[.agg #[.int .i64 r1, .int .i64 r2], .int .i64 0]) (by first | (simp [results, Tryd.results50, go_sem]; done) | (simp [results, Tryd.results50, go_sem, *]; done)) rfl ⟨rfl, ?_⟩
      repeat (first | exact Below.refl _ _ | exact HB2.out | refine Below.setCell ?_ (by first | (simp; done) | omega | (simp; omega)) _ | refine Below.alloc ?_ (by first | (simp; done) | omega | (simp; omega)) _ | refine bel_drew ?_)
    · rw [if_neg e2]
      have e2' : (c2 == 0) = false := by simpa using e2
      obtain ⟨W0, hW0⟩ : ∃ W0, W0 = (w.alloc (.cells #[.int .i64 d, .int .i64 m, (.int .i64 d'), (.int .i64 m')] 65)).alloc (.cells #[.int .i64 0, .int .i64 0] 60) := ⟨_, rfl⟩
      have HB0 : Hid (Below w.heap.size w W0) := Lib.hid (by rw [hW0]; exact ((Below.refl _ _).alloc (Nat.le_refl _) _).alloc (by first | (simp; done) | (simp; omega)) _)
      have K0 : Hid (W0.cell? ⟨w.heap.size, 0, none⟩ = some (.int .i64 d) ∧ W0.cell? ⟨w.heap.size, 1, none⟩ = some (.int .i64 m) ∧ W0.cell? ⟨w.heap.size, 2, none⟩ = some ((.int .i64 d')) ∧ W0.cell? ⟨w.heap.size, 3, none⟩ = some ((.int .i64 m'))) := Lib.hid (by rw [hW0]; exact ⟨by rw [World.cell?_alloc_lt _ _ _ (by first | (simp; done) | (simp; omega))]; simp, by rw [World.cell?_alloc_lt _ _ _ (by first | (simp; done) | (simp; omega))]; simp, by rw [World.cell?_alloc_lt _ _ _ (by first | (simp; done) | (simp; omega))]; simp, by rw [World.cell?_alloc_lt _ _ _ (by first | (simp; done) | (simp; omega))]; simp⟩)
      have R0 : Hid (C2 W0 (w.heap.size + 1) 0 0) := Lib.hid (by rw [hW0]; simpa using C2.new (w.alloc (.cells #[.int .i64 d, .int .i64 m, (.int .i64 d'), (.int .i64 m')] 65)) 60 0 0)
      have HW := Lib.hid hW0
      clear hW0
      go_enter Tryd.func50, Tryd.ntmps50
      obtain ⟨k0, k1, k2, k3⟩ := K0.out
      go_wp2_with fail
      rw [← HW.out]
      clear HW
      refine (H1.out _ (E.out.below HB0.out)).mono ?_
      rintro e w1 ⟨rfl, hb⟩
      have lw := World.block_lt_of_cell? W0 ⟨w.heap.size, 0, none⟩ k0
      have HB1 := Lib.hid (HB0.out.trans (hb.mono HB0.out.size))
      have R1 := Lib.hid (R0.out.go hb)
      have K1 : Hid (w1.cell? ⟨w.heap.size, 0, none⟩ = some (.int .i64 d) ∧ w1.cell? ⟨w.heap.size, 1, none⟩ = some (.int .i64 m) ∧ w1.cell? ⟨w.heap.size, 2, none⟩ = some ((.int .i64 d')) ∧ w1.cell? ⟨w.heap.size, 3, none⟩ = some ((.int .i64 m'))) := Lib.hid ⟨((bcell hb).1 _ _ lw).trans k0, ((bcell hb).1 _ _ lw).trans k1, ((bcell hb).1 _ _ lw).trans k2, ((bcell hb).1 _ _ lw).trans k3⟩
      clear hb lw k0 k1 k2 k3
      obtain ⟨k0, k1, k2, k3⟩ := K1.out
      go_wp2_with fail
      refine (H2.out _ (E.out.below HB1.out)).mono ?_
      rintro e w2 ⟨rfl, hb⟩
      have HB2 := Lib.hid (HB1.out.trans (hb.mono HB1.out.size))
      have R2 := R1.out.go hb
      clear hb k0 k1 k2 k3
      obtain ⟨q0, q1, q2, q3⟩ := R2
      go_wp2_with fail
      refine bodyPost_ret (v := .tuple #[.agg #[.int .i64 0, .int .i64 0], .int .i64 c2]) (by first | (simp [results, Tryd.results50, go_sem]; done) | (simp [results, Tryd.results50, go_sem, *]; done)) rfl ⟨rfl, ?_⟩
      repeat (first | exact Below.refl _ _ | exact HB2.out | refine Below.setCell ?_ (by first | (simp; done) | omega | (simp; omega)) _ | refine Below.alloc ?_ (by first | (simp; done) | omega | (simp; omega)) _ | refine bel_drew ?_)
  · rw [if_neg e1]
    have e1' : (c1 == 0) = false := by simpa using e1
    obtain ⟨W0, hW0⟩ : ∃ W0, W0 = (w.alloc (.cells #[.int .i64 d, .int .i64 m, (.int .i64 d'), (.int .i64 m')] 65)).alloc (.cells #[.int .i64 0, .int .i64 0] 60) := ⟨_, rfl⟩
    have HB0 : Hid (Below w.heap.size w W0) := Lib.hid (by rw [hW0]; exact ((Below.refl _ _).alloc (Nat.le_refl _) _).alloc (by first | (simp; done) | (simp; omega)) _)
    have K0 : Hid (W0.cell? ⟨w.heap.size, 0, none⟩ = some (.int .i64 d) ∧ W0.cell? ⟨w.heap.size, 1, none⟩ = some (.int .i64 m) ∧ W0.cell? ⟨w.heap.size, 2, none⟩ = some ((.int .i64 d')) ∧ W0.cell? ⟨w.heap.size, 3, none⟩ = some ((.int .i64 m'))) := Lib.hid (by rw [hW0]; exact ⟨by rw [World.cell?_alloc_lt _ _ _ (by first | (simp; done) | (simp; omega))]; simp, by rw [World.cell?_alloc_lt _ _ _ (by first | (simp; done) | (simp; omega))]; simp, by rw [World.cell?_alloc_lt _ _ _ (by first | (simp; done) | (simp; omega))]; simp, by rw [World.cell?_alloc_lt _ _ _ (by first | (simp; done) | (simp; omega))]; simp⟩)
    have R0 : Hid (C2 W0 (w.heap.size + 1) 0 0) := Lib.hid (by rw [hW0]; simpa using C2.new (w.alloc (.cells #[.int .i64 d, .int .i64 m, (.int .i64 d'), (.int .i64 m')] 65)) 60 0 0)
    have HW := Lib.hid hW0
    clear hW0
    go_enter Tryd.func50, Tryd.ntmps50
    obtain ⟨k0, k1, k2, k3⟩ := K0.out
    go_wp2_with fail
    rw [← HW.out]
    clear HW
    refine (H1.out _ (E.out.below HB0.out)).mono ?_
    rintro e w1 ⟨rfl, hb⟩
    have lw := World.block_lt_of_cell? W0 ⟨w.heap.size, 0, none⟩ k0
    have HB1 := Lib.hid (HB0.out.trans (hb.mono HB0.out.size))
    have R1 := Lib.hid (R0.out.go hb)
    have K1 : Hid (w1.cell? ⟨w.heap.size, 0, none⟩ = some (.int .i64 d) ∧ w1.cell? ⟨w.heap.size, 1, none⟩ = some (.int .i64 m) ∧ w1.cell? ⟨w.heap.size, 2, none⟩ = some ((.int .i64 d')) ∧ w1.cell? ⟨w.heap.size, 3, none⟩ = some ((.int .i64 m'))) := Lib.hid ⟨((bcell hb).1 _ _ lw).trans k0, ((bcell hb).1 _ _ lw).trans k1, ((bcell hb).1 _ _ lw).trans k2, ((bcell hb).1 _ _ lw).trans k3⟩
    clear hb lw k0 k1 k2 k3
    obtain ⟨k0, k1, k2, k3⟩ := K1.out
    obtain ⟨q0, q1, q2, q3⟩ := R1.out
    go_wp2_with fail
    refine bodyPost_ret (v := .tuple #[.agg #[.int .i64 0, .int .i64 0], .int .i64 c1]) (by first | (simp [results, Tryd.results50, go_sem]; done) | (simp [results, Tryd.results50, go_sem, *]; done)) rfl ⟨rfl, ?_⟩
    repeat (first | exact Below.refl _ _ | exact HB1.out | refine Below.setCell ?_ (by first | (simp; done) | omega | (simp; omega)) _ | refine Below.alloc ?_ (by first | (simp; done) | omega | (simp; omega)) _ | refine bel_drew ?_)

def retB (s : ByteArray) (a b c : Int) (t : ByteArray) (x y z d m : Int) : Bool := if askP s a b c t x y z d m = 0 then (if askP s a b c t x y z (d + 1) m = 0 then decide (sgn (seeR s a b c t x y z d m) (seeR s a b c t x y z (d + 1) m) < 0) else false) else false

set_option maxHeartbeats 2000000 in
theorem specIsRetrograde_any (s : ByteArray) (a b c : Int) (t : ByteArray) (x y z d m : Int) (w : World) :
    Calls Tryd.prog 23 #[.agg #[.string s, .int .i64 a, .int .i64 b, .int .i64 c], .agg #[.string t, .int .i64 x, .int .i64 y, .int .i64 z], .agg #[.int .i64 d, .int .i64 m]] w fun e w' => e = .returned (.bool (retB s a b c t x y z d m)) ∧ Below w.heap.size w w' := by
  unfold retB
  have K1 := Lib.hid (fun w' p q => l07Ask_at w.heap.size (w.heap.size + 1) s a b c t x y z d m w' p q)
  have K2 := Lib.hid (fun w' p q => l07Ask_at w.heap.size (w.heap.size + 1) s a b c t x y z (d + 1) m w' p q)
  by_cases h : askP s a b c t x y z d m = 0
  · rw [if_pos h]
    rw [h] at K1
    obtain ⟨hp, hq, hm, hn⟩ := askP_0 _ _ _ _ _ _ _ _ _ _ h
    obtain ⟨⟨d0, d1⟩, _, _⟩ := okM_bd d m hm
    by_cases h2 : askP s a b c t x y z (d + 1) m = 0
    · rw [if_pos h2]
      rw [h2] at K2
      obtain ⟨_, _, hm2, _⟩ := askP_0 _ _ _ _ _ _ _ _ _ _ h2
      have S1 := Lib.hid (fun w' p q => l07Seen_at w.heap.size (w.heap.size + 1) s a b c t x y z d m hp hq hm w' p q)
      have S2 := Lib.hid (fun w' p q => l07Seen_at w.heap.size (w.heap.size + 1) s a b c t x y z (d + 1) m hp hq hm2 w' p q)
      rw [← seeR_0 _ _ _ _ _ _ _ _ _ _ h] at S1
      rw [← seeR_0 _ _ _ _ _ _ _ _ _ _ h2] at S2
      have r1 := seeR_bd s a b c t x y z d m
      have r2 := seeR_bd s a b c t x y z (d + 1) m
      clear h h2 hp hq hm hm2 hn
      generalize seeR s a b c t x y z d m = R1 at *
      generalize seeR s a b c t x y z (d + 1) m = R2 at *
      have SG := Lib.hid (fun w => l02Signed_any R1 R2 w (by omega) (by omega) (by omega) (by omega))
      generalize sgn R1 R2 = G at *
      obtain ⟨W0, hW0⟩ : ∃ W0, W0 = ((w.alloc (.cells #[.string s, .int .i64 a, .int .i64 b, .int .i64 c] 29)).alloc (.cells #[.string t, .int .i64 x, .int .i64 y, .int .i64 z] 29)).alloc (.cells #[.int .i64 d, .int .i64 m] 31) := ⟨_, rfl⟩
      have HB0 : Hid (Below w.heap.size w W0) := Lib.hid (by rw [hW0]; exact (((Below.refl _ _).alloc (Nat.le_refl _) _).alloc (by first | (simp; done) | (simp; omega)) _).alloc (by first | (simp; done) | (simp; omega)) _)
      have P0 : Hid (Pl W0 w.heap.size s a b c) := Lib.hid (by rw [hW0]; exact ((Pl.new _ _ _ _ _ _).alloc _).alloc _)
      have Q0 : Hid (Pl W0 (w.heap.size + 1) t x y z) := Lib.hid (by rw [hW0]; simpa using (Pl.new (w.alloc (.cells #[.string s, .int .i64 a, .int .i64 b, .int .i64 c] 29)) 29 t x y z).alloc (.cells #[.int .i64 d, .int .i64 m] 31))
      have M0 : Hid (Mo W0 (w.heap.size + 1 + 1) d m) := Lib.hid (by rw [hW0]; simpa using Mo.new ((w.alloc (.cells #[.string s, .int .i64 a, .int .i64 b, .int .i64 c] 29)).alloc (.cells #[.string t, .int .i64 x, .int .i64 y, .int .i64 z] 29)) 31 d m)
      have HW := Lib.hid hW0
      clear hW0
      go_enter Tryd.func23, Tryd.ntmps23
      obtain ⟨m0, m1⟩ := M0.out
      go_wp2_with fail
      rw [← HW.out]
      clear HW
      refine (K1.out _ P0.out Q0.out).mono ?_
      rintro e w1 ⟨rfl, hb⟩
      have P1 := Lib.hid (P0.out.below hb)
      have Q1 := Lib.hid (Q0.out.below hb)
      have M1 := Lib.hid (M0.out.below hb)
      have HB1 := Lib.hid (HB0.out.trans (hb.mono HB0.out.size))
      clear hb m0 m1
      obtain ⟨m0, m1⟩ := M1.out
      go_wp2_with fail
      have hx : Below w1.heap.size w1 (w1.alloc (.cells #[.int .i64 (d + 1), .int .i64 m] 31)) := (Below.refl _ _).alloc (Nat.le_refl _) _
      have N1 : Hid (Mo (w1.alloc (.cells #[.int .i64 (d + 1), .int .i64 m] 31)) w1.heap.size (d + 1) m) := Lib.hid (Mo.new _ _ _ _)
      refine (K2.out _ (P1.out.below hx) (Q1.out.below hx)).mono ?_
      rintro e w2 ⟨rfl, hb⟩
      have P2 := Lib.hid ((P1.out.below hx).below hb)
      have Q2 := Lib.hid ((Q1.out.below hx).below hb)
      have M2 := Lib.hid ((M1.out.below hx).below hb)
      have N2 := Lib.hid (N1.out.below hb)
      have HB2 := Lib.hid ((HB1.out.trans (hx.mono HB1.out.size)).trans (hb.mono (HB1.out.trans (hx.mono HB1.out.size)).size))
      clear hb hx m0 m1
      obtain ⟨m0, m1⟩ := M2.out
      obtain ⟨n0, n1⟩ := N2.out
      go_wp2_with fail
      have KK : Hid (w2.cell? ⟨w.heap.size + 1 + 1, 0, none⟩ = some (.int .i64 d) ∧ w2.cell? ⟨w.heap.size + 1 + 1, 1, none⟩ = some (.int .i64 m) ∧ w2.cell? ⟨w1.heap.size, 0, none⟩ = some (.int .i64 (d + 1)) ∧ w2.cell? ⟨w1.heap.size, 1, none⟩ = some (.int .i64 m) ∧ Below w2.heap.size w2 w2) := Lib.hid ⟨M2.out.c0, M2.out.c1, N2.out.c0, N2.out.c1, Below.refl _ _⟩
      go_region_held3 (fun w' => w'.cell? ⟨w.heap.size + 1 + 1, 0, none⟩ = some (.int .i64 d) ∧ w'.cell? ⟨w.heap.size + 1 + 1, 1, none⟩ = some (.int .i64 m) ∧ w'.cell? ⟨w1.heap.size, 0, none⟩ = some (.int .i64 (d + 1)) ∧ w'.cell? ⟨w1.heap.size, 1, none⟩ = some (.int .i64 m) ∧ Below w2.heap.size w2 w') (first | (exact keepP4 KK.out (bel_drew (Below.refl _ _))) | (exact keepP4 KK.out y2) | (exact keepP4 KK.out y1) | go_keep) ((first
        | (go_at_call 34; (first
          | ((with_reducible refine (S1.out _ (P2.out.below (bel_drew (Below.refl _ _))) (Q2.out.below (bel_drew (Below.refl _ _)))).mono ?_); rintro e x1 ⟨rfl, hx1⟩; have y1 := undrewP hx1)
          | ((with_reducible refine (S2.out _ (P2.out.below y1) (Q2.out.below y1)).mono ?_); rintro e x2 ⟨rfl, hx2⟩; have y2 := y1.trans (hx2.mono y1.size))))
        | (go_at_call 49; (with_reducible refine (SG.out _).mono ?_); rintro e x3 ⟨rfl, rfl⟩)))
      rename_i held
      have HB3 := Lib.hid (HB2.out.trans (held.2.2.2.2.mono HB2.out.size))
      clear held m0 m1 n0 n1
      go_wp2_with fail
      go_ret
      exact ⟨rfl, HB3.out⟩
    · rw [if_neg h2]
      generalize askP s a b c t x y z (d + 1) m = k at *
      have hk : (k == 0) = false := by simpa using h2
      clear h h2 hp hq hm hn
      obtain ⟨W0, hW0⟩ : ∃ W0, W0 = ((w.alloc (.cells #[.string s, .int .i64 a, .int .i64 b, .int .i64 c] 29)).alloc (.cells #[.string t, .int .i64 x, .int .i64 y, .int .i64 z] 29)).alloc (.cells #[.int .i64 d, .int .i64 m] 31) := ⟨_, rfl⟩
      have HB0 : Hid (Below w.heap.size w W0) := Lib.hid (by rw [hW0]; exact (((Below.refl _ _).alloc (Nat.le_refl _) _).alloc (by first | (simp; done) | (simp; omega)) _).alloc (by first | (simp; done) | (simp; omega)) _)
      have P0 : Hid (Pl W0 w.heap.size s a b c) := Lib.hid (by rw [hW0]; exact ((Pl.new _ _ _ _ _ _).alloc _).alloc _)
      have Q0 : Hid (Pl W0 (w.heap.size + 1) t x y z) := Lib.hid (by rw [hW0]; simpa using (Pl.new (w.alloc (.cells #[.string s, .int .i64 a, .int .i64 b, .int .i64 c] 29)) 29 t x y z).alloc (.cells #[.int .i64 d, .int .i64 m] 31))
      have M0 : Hid (Mo W0 (w.heap.size + 1 + 1) d m) := Lib.hid (by rw [hW0]; simpa using Mo.new ((w.alloc (.cells #[.string s, .int .i64 a, .int .i64 b, .int .i64 c] 29)).alloc (.cells #[.string t, .int .i64 x, .int .i64 y, .int .i64 z] 29)) 31 d m)
      have HW := Lib.hid hW0
      clear hW0
      go_enter Tryd.func23, Tryd.ntmps23
      obtain ⟨m0, m1⟩ := M0.out
      go_wp2_with fail
      rw [← HW.out]
      clear HW
      refine (K1.out _ P0.out Q0.out).mono ?_
      rintro e w1 ⟨rfl, hb⟩
      have P1 := Lib.hid (P0.out.below hb)
      have Q1 := Lib.hid (Q0.out.below hb)
      have M1 := Lib.hid (M0.out.below hb)
      have HB1 := Lib.hid (HB0.out.trans (hb.mono HB0.out.size))
      clear hb m0 m1
      obtain ⟨m0, m1⟩ := M1.out
      go_wp2_with fail
      have hx : Below w1.heap.size w1 (w1.alloc (.cells #[.int .i64 (d + 1), .int .i64 m] 31)) := (Below.refl _ _).alloc (Nat.le_refl _) _
      have N1 : Hid (Mo (w1.alloc (.cells #[.int .i64 (d + 1), .int .i64 m] 31)) w1.heap.size (d + 1) m) := Lib.hid (Mo.new _ _ _ _)
      refine (K2.out _ (P1.out.below hx) (Q1.out.below hx)).mono ?_
      rintro e w2 ⟨rfl, hb⟩
      have P2 := Lib.hid ((P1.out.below hx).below hb)
      have Q2 := Lib.hid ((Q1.out.below hx).below hb)
      have M2 := Lib.hid ((M1.out.below hx).below hb)
      have N2 := Lib.hid (N1.out.below hb)
      have HB2 := Lib.hid ((HB1.out.trans (hx.mono HB1.out.size)).trans (hb.mono (HB1.out.trans (hx.mono HB1.out.size)).size))
      clear hb hx m0 m1
      obtain ⟨m0, m1⟩ := M2.out
      obtain ⟨n0, n1⟩ := N2.out
      go_wp2_with fail
      go_ret
      exact ⟨rfl, HB2.out⟩
  · rw [if_neg h]
    generalize askP s a b c t x y z d m = k at *
    have hk : (k == 0) = false := by simpa using h
    clear h
    obtain ⟨W0, hW0⟩ : ∃ W0, W0 = ((w.alloc (.cells #[.string s, .int .i64 a, .int .i64 b, .int .i64 c] 29)).alloc (.cells #[.string t, .int .i64 x, .int .i64 y, .int .i64 z] 29)).alloc (.cells #[.int .i64 d, .int .i64 m] 31) := ⟨_, rfl⟩
    have HB0 : Hid (Below w.heap.size w W0) := Lib.hid (by rw [hW0]; exact (((Below.refl _ _).alloc (Nat.le_refl _) _).alloc (by first | (simp; done) | (simp; omega)) _).alloc (by first | (simp; done) | (simp; omega)) _)
    have P0 : Hid (Pl W0 w.heap.size s a b c) := Lib.hid (by rw [hW0]; exact ((Pl.new _ _ _ _ _ _).alloc _).alloc _)
    have Q0 : Hid (Pl W0 (w.heap.size + 1) t x y z) := Lib.hid (by rw [hW0]; simpa using (Pl.new (w.alloc (.cells #[.string s, .int .i64 a, .int .i64 b, .int .i64 c] 29)) 29 t x y z).alloc (.cells #[.int .i64 d, .int .i64 m] 31))
    have M0 : Hid (Mo W0 (w.heap.size + 1 + 1) d m) := Lib.hid (by rw [hW0]; simpa using Mo.new ((w.alloc (.cells #[.string s, .int .i64 a, .int .i64 b, .int .i64 c] 29)).alloc (.cells #[.string t, .int .i64 x, .int .i64 y, .int .i64 z] 29)) 31 d m)
    have HW := Lib.hid hW0
    clear hW0
    go_enter Tryd.func23, Tryd.ntmps23
    obtain ⟨m0, m1⟩ := M0.out
    go_wp2_with fail
    rw [← HW.out]
    clear HW
    refine (K1.out _ P0.out Q0.out).mono ?_
    rintro e w1 ⟨rfl, hb⟩
    have P1 := Lib.hid (P0.out.below hb)
    have Q1 := Lib.hid (Q0.out.below hb)
    have M1 := Lib.hid (M0.out.below hb)
    have HB1 := Lib.hid (HB0.out.trans (hb.mono HB0.out.size))
    clear hb m0 m1
    obtain ⟨m0, m1⟩ := M1.out
    go_wp2_with fail
    go_ret
    exact ⟨rfl, HB1.out⟩

def ThreeAt (w0 W0 : World) (s : ByteArray) (a b c : Int) (t : ByteArray) (x y z d m : Int) (W : World) : Prop := Pl W w0.heap.size s a b c ∧ Pl W (w0.heap.size + 1) t x y z ∧ Mo W (w0.heap.size + 1 + 1) d m ∧ Below W0.heap.size W0 W
theorem ThreeAt.on {w0 W0 W W' : World} {s : ByteArray} {a b c : Int} {t : ByteArray} {x y z d m : Int} (k : ThreeAt w0 W0 s a b c t x y z d m W) (hb : Below W.heap.size W W') : ThreeAt w0 W0 s a b c t x y z d m W' :=
  ⟨k.1.below hb, k.2.1.below hb, k.2.2.1.below hb, k.2.2.2.trans (hb.mono k.2.2.2.size)⟩
theorem ThreeAt.flat {w W0 W : World} {s : ByteArray} {a b c : Int} {t : ByteArray} {x y z d m : Int} (k : ThreeAt w W0 s a b c t x y z d m W) : W.cell? ⟨w.heap.size, 0, none⟩ = some (.string s) ∧ W.cell? ⟨w.heap.size, 1, none⟩ = some (.int .i64 a) ∧ W.cell? ⟨w.heap.size, 2, none⟩ = some (.int .i64 b) ∧ W.cell? ⟨w.heap.size, 3, none⟩ = some (.int .i64 c) ∧ W.cell? ⟨w.heap.size + 1, 0, none⟩ = some (.string t) ∧ W.cell? ⟨w.heap.size + 1, 1, none⟩ = some (.int .i64 x) ∧ W.cell? ⟨w.heap.size + 1, 2, none⟩ = some (.int .i64 y) ∧ W.cell? ⟨w.heap.size + 1, 3, none⟩ = some (.int .i64 z) ∧ W.cell? ⟨w.heap.size + 1 + 1, 0, none⟩ = some (.int .i64 d) ∧ W.cell? ⟨w.heap.size + 1 + 1, 1, none⟩ = some (.int .i64 m) ∧ Below W0.heap.size W0 W :=
  ⟨k.1.c0, k.1.c1, k.1.c2, k.1.c3, k.2.1.c0, k.2.1.c1, k.2.1.c2, k.2.1.c3, k.2.2.1.c0, k.2.2.1.c1, k.2.2.2⟩

def bothK (c1 c2 : Int) : Int := if c1 = 0 then c2 else c1
def bothP (r c1 c2 : Int) : Int := if c1 = 0 ∧ c2 = 0 then r else 0
theorem bothV_eq (r1 c1 r2 c2 : Int) : bothV r1 c1 r2 c2 = .tuple #[.agg #[.int .i64 (bothP r1 c1 c2), .int .i64 (bothP r2 c1 c2)], .int .i64 (bothK c1 c2)] := by
  unfold bothV bothP bothK
  by_cases h1 : c1 = 0
  · rw [if_pos h1, if_pos h1]
    by_cases h2 : c2 = 0
    · rw [if_pos h2, if_pos ⟨h1, h2⟩, if_pos ⟨h1, h2⟩, h2]
    · rw [if_neg h2, if_neg (fun h => h2 h.2), if_neg (fun h => h2 h.2)]
  · rw [if_neg h1, if_neg h1, if_neg (fun h => h1 h.1), if_neg (fun h => h1 h.1)]
theorem bothP_bd (r c1 c2 : Int) (h0 : 0 ≤ r) (h1 : r < 360000) : 0 ≤ bothP r c1 c2 ∧ bothP r c1 c2 < 360000 := by
  unfold bothP
  split <;> omega
theorem ret_eq (s : ByteArray) (a b c : Int) (t : ByteArray) (x y z d m : Int) : retB s a b c t x y z d m = (if bothK (askP s a b c t x y z d m) (askP s a b c t x y z (wrap64 (d + 1)) m) = 0 then decide (sgn (bothP (seeR s a b c t x y z d m) (askP s a b c t x y z d m) (askP s a b c t x y z (wrap64 (d + 1)) m)) (bothP (seeR s a b c t x y z (wrap64 (d + 1)) m) (askP s a b c t x y z d m) (askP s a b c t x y z (wrap64 (d + 1)) m)) < 0) else false) := by
  unfold retB bothK
  by_cases h : askP s a b c t x y z d m = 0
  · obtain ⟨_, _, hm, _⟩ := askP_0 _ _ _ _ _ _ _ _ _ _ h
    obtain ⟨⟨d0, d1⟩, _, _⟩ := okM_bd d m hm
    have ew : wrap64 (d + 1) = d + 1 := IntWalk.wrap64_in _ (by omega)
    rw [ew]
    simp only [if_pos h]
    by_cases h2 : askP s a b c t x y z (d + 1) m = 0
    · simp only [if_pos h2]
      unfold bothP
      rw [if_pos ⟨h, h2⟩, if_pos ⟨h, h2⟩]
    · simp only [if_neg h2]
  · simp only [if_neg h]

set_option maxHeartbeats 4000000 in
theorem implIsRetrograde_any (s : ByteArray) (a b c : Int) (t : ByteArray) (x y z d m : Int) (hmax : s.size ≤ maxLen) (tmax : t.size ≤ maxLen) (w : World) (hs : SinesOK w) :
    Calls Tryd.prog 24 #[.agg #[.string s, .int .i64 a, .int .i64 b, .int .i64 c], .agg #[.string t, .int .i64 x, .int .i64 y, .int .i64 z], .agg #[.int .i64 d, .int .i64 m]] w fun e w' => e = .returned (.bool (retB s a b c t x y z d m)) ∧ Below w.heap.size w w' := by
  have H1 := fun w hs => viewAngle_any s a b c t x y z d m hmax tmax w hs
  have H2 := fun w hs => viewAngle_any s a b c t x y z (wrap64 (d + 1)) m hmax tmax w hs
  simp only [seeV_eq] at H1 H2
  have BO := Lib.hid (fun w hs => bothM_any #[.string s, .int .i64 a, .int .i64 b, .int .i64 c, .string t, .int .i64 x, .int .i64 y, .int .i64 z] d m (wrap64 (d + 1)) m _ _ _ _ H1 H2 w hs)
  have DL := Lib.hid (fun w => daysLater_any d m 1 w)
  have E := Lib.hid hs
  clear H1 H2 hs hmax tmax
  rw [ret_eq]
  simp only [bothV_eq] at BO
  have r1 := bothP_bd _ (askP s a b c t x y z d m) (askP s a b c t x y z (wrap64 (d + 1)) m) (seeR_bd s a b c t x y z d m).1 (seeR_bd s a b c t x y z d m).2
  have r2 := bothP_bd _ (askP s a b c t x y z d m) (askP s a b c t x y z (wrap64 (d + 1)) m) (seeR_bd s a b c t x y z (wrap64 (d + 1)) m).1 (seeR_bd s a b c t x y z (wrap64 (d + 1)) m).2
  generalize bothP (seeR s a b c t x y z d m) (askP s a b c t x y z d m) (askP s a b c t x y z (wrap64 (d + 1)) m) = p at *
  generalize bothP (seeR s a b c t x y z (wrap64 (d + 1)) m) (askP s a b c t x y z d m) (askP s a b c t x y z (wrap64 (d + 1)) m) = q at *
  generalize bothK (askP s a b c t x y z d m) (askP s a b c t x y z (wrap64 (d + 1)) m) = k at *
  generalize wrap64 (d + 1) = D at *
  have SG := Lib.hid (fun w => implSgn_any p q w (by omega) (by omega) (by omega) (by omega))
  generalize sgn p q = G at *
  clear r1 r2
  by_cases hk : k = 0
  · rw [if_pos hk]
    subst hk
    obtain ⟨W0, hW0⟩ : ∃ W0, W0 = ((w.alloc (.cells #[.string s, .int .i64 a, .int .i64 b, .int .i64 c] 29)).alloc (.cells #[.string t, .int .i64 x, .int .i64 y, .int .i64 z] 29)).alloc (.cells #[.int .i64 d, .int .i64 m] 31) := ⟨_, rfl⟩
    have HB0 : Hid (Below w.heap.size w W0) := Lib.hid (by rw [hW0]; exact (((Below.refl _ _).alloc (Nat.le_refl _) _).alloc (by first | (simp; done) | (simp; omega)) _).alloc (by first | (simp; done) | (simp; omega)) _)
    have K0 : Hid (ThreeAt w W0 s a b c t x y z d m W0) := Lib.hid (by
      refine ⟨?_, ?_, ?_, Below.refl _ _⟩
      · rw [hW0]; exact ((Pl.new _ _ _ _ _ _).alloc _).alloc _
      · rw [hW0]; simpa using (Pl.new (w.alloc (.cells #[.string s, .int .i64 a, .int .i64 b, .int .i64 c] 29)) 29 t x y z).alloc (.cells #[.int .i64 d, .int .i64 m] 31)
      · rw [hW0]; simpa using Mo.new ((w.alloc (.cells #[.string s, .int .i64 a, .int .i64 b, .int .i64 c] 29)).alloc (.cells #[.string t, .int .i64 x, .int .i64 y, .int .i64 z] 29)) 31 d m)
    have HW := Lib.hid hW0
    clear hW0
    go_enter Tryd.func24, Tryd.ntmps24
    go_wp2_with fail
    rw [← HW.out]
    clear HW
    have E0 := Lib.hid (E.out.below HB0.out)
    obtain ⟨k0, k1, k2, k3, k4, k5, k6, k7, k8, k9, k10⟩ := K0.out.flat
    go_cut [7, 8] from 9 (fun sp sc wx => ∃ r : Nat, sp = .pointer (some ⟨r, 0, none⟩) ∧ sc = .int .i64 0 ∧ Hid (C2 wx r p q) ∧ Hid (Below W0.heap.size W0 wx))
    case first =>
      go_region_held3 (fun w' => w'.cell? ⟨w.heap.size, 0, none⟩ = some (.string s) ∧ w'.cell? ⟨w.heap.size, 1, none⟩ = some (.int .i64 a) ∧ w'.cell? ⟨w.heap.size, 2, none⟩ = some (.int .i64 b) ∧ w'.cell? ⟨w.heap.size, 3, none⟩ = some (.int .i64 c) ∧ w'.cell? ⟨w.heap.size + 1, 0, none⟩ = some (.string t) ∧ w'.cell? ⟨w.heap.size + 1, 1, none⟩ = some (.int .i64 x) ∧ w'.cell? ⟨w.heap.size + 1, 2, none⟩ = some (.int .i64 y) ∧ w'.cell? ⟨w.heap.size + 1, 3, none⟩ = some (.int .i64 z) ∧ w'.cell? ⟨w.heap.size + 1 + 1, 0, none⟩ = some (.int .i64 d) ∧ w'.cell? ⟨w.heap.size + 1 + 1, 1, none⟩ = some (.int .i64 m) ∧ Below W0.heap.size W0 w') (first | (refine (K0.out.on ?_).flat; first | with_reducible exact bel_drew (Below.refl _ _) | with_reducible exact y2 | with_reducible exact y1 | with_reducible exact y2.alloc y2.size _ | with_reducible exact y1.alloc y1.size _ | with_reducible exact (bel_drew (Below.refl _ _)).alloc (Nat.le_refl _) _ | with_reducible exact bel_drew ((Below.refl _ _).alloc (Nat.le_refl _) _) | with_reducible exact (y2.setCell y2.size _).setCell y2.size _ | with_reducible exact (y2.setCell y1.size _).setCell y1.size _ | with_reducible exact (y2.setCell (Nat.le_refl _) _).setCell (Nat.le_refl _) _) | go_keep) ((first
        | (go_at_call 51; (with_reducible refine (DL.out _).mono ?_); rintro e x1 ⟨rfl, hx1⟩; (first | have y1 := undrewD1 hx1 | have y1 := undrewP hx1))
        | (go_at_call 50; (with_reducible refine (BO.out _ (SinesOK.below E0.out (by first | exact y1 | exact y1.alloc y1.size _))).mono ?_); rintro e x2 ⟨rfl, hx2⟩; (first | have y2 := onw1 y1 hx2 | have y2 := onw y1 hx2); (first | (have r := Z2.l1 hx2; have rr := Lib.hid r; obtain ⟨q0, q1, q2, q3⟩ := r) | (have r := (Z2.d1 hx1).go hx2; have rr := Lib.hid r; obtain ⟨q0, q1, q2, q3⟩ := r) | skip))))
      all_goals
        rename_i held
        have S1 := Lib.hid held.2.2.2.2.2.2.2.2.2.2
        clear held
        go_wp2_with fail
        go_meet
        case rel => first | exact ⟨_, rfl, rfl, Lib.hid (C2.new _ _ _ _), S1⟩ | exact ⟨_, rfl, rfl, Lib.hid (set2' rr.out _ _), S1⟩
    case rest =>
      obtain ⟨r, rfl, rfl, CQ, S2⟩ := hcut
      obtain ⟨q0, q1, _, _⟩ := CQ.out
      have HB1 := Lib.hid (HB0.out.trans (S2.out.mono HB0.out.size))
      clear k0 k1 k2 k3 k4 k5 k6 k7 k8 k9 k10 K0 CQ
      go_wp2_with fail
      refine (SG.out _).mono ?_
      rintro e w' ⟨rfl, rfl⟩
      go_wp2_with fail
      go_ret
      exact ⟨rfl, HB1.out⟩
  · rw [if_neg hk]
    have hk' : (k == 0) = false := by simpa using hk
    obtain ⟨W0, hW0⟩ : ∃ W0, W0 = ((w.alloc (.cells #[.string s, .int .i64 a, .int .i64 b, .int .i64 c] 29)).alloc (.cells #[.string t, .int .i64 x, .int .i64 y, .int .i64 z] 29)).alloc (.cells #[.int .i64 d, .int .i64 m] 31) := ⟨_, rfl⟩
    have HB0 : Hid (Below w.heap.size w W0) := Lib.hid (by rw [hW0]; exact (((Below.refl _ _).alloc (Nat.le_refl _) _).alloc (by first | (simp; done) | (simp; omega)) _).alloc (by first | (simp; done) | (simp; omega)) _)
    have K0 : Hid (ThreeAt w W0 s a b c t x y z d m W0) := Lib.hid (by
      refine ⟨?_, ?_, ?_, Below.refl _ _⟩
      · rw [hW0]; exact ((Pl.new _ _ _ _ _ _).alloc _).alloc _
      · rw [hW0]; simpa using (Pl.new (w.alloc (.cells #[.string s, .int .i64 a, .int .i64 b, .int .i64 c] 29)) 29 t x y z).alloc (.cells #[.int .i64 d, .int .i64 m] 31)
      · rw [hW0]; simpa using Mo.new ((w.alloc (.cells #[.string s, .int .i64 a, .int .i64 b, .int .i64 c] 29)).alloc (.cells #[.string t, .int .i64 x, .int .i64 y, .int .i64 z] 29)) 31 d m)
    have HW := Lib.hid hW0
    clear hW0
    go_enter Tryd.func24, Tryd.ntmps24
    go_wp2_with fail
    rw [← HW.out]
    clear HW
    have E0 := Lib.hid (E.out.below HB0.out)
    obtain ⟨k0, k1, k2, k3, k4, k5, k6, k7, k8, k9, k10⟩ := K0.out.flat
    go_cut [7, 8] from 9 (fun sp sc wx => ∃ r : Nat, sp = .pointer (some ⟨r, 0, none⟩) ∧ sc = .int .i64 k ∧ Hid (C2 wx r p q) ∧ Hid (Below W0.heap.size W0 wx))
    case first =>
      go_region_held3 (fun w' => w'.cell? ⟨w.heap.size, 0, none⟩ = some (.string s) ∧ w'.cell? ⟨w.heap.size, 1, none⟩ = some (.int .i64 a) ∧ w'.cell? ⟨w.heap.size, 2, none⟩ = some (.int .i64 b) ∧ w'.cell? ⟨w.heap.size, 3, none⟩ = some (.int .i64 c) ∧ w'.cell? ⟨w.heap.size + 1, 0, none⟩ = some (.string t) ∧ w'.cell? ⟨w.heap.size + 1, 1, none⟩ = some (.int .i64 x) ∧ w'.cell? ⟨w.heap.size + 1, 2, none⟩ = some (.int .i64 y) ∧ w'.cell? ⟨w.heap.size + 1, 3, none⟩ = some (.int .i64 z) ∧ w'.cell? ⟨w.heap.size + 1 + 1, 0, none⟩ = some (.int .i64 d) ∧ w'.cell? ⟨w.heap.size + 1 + 1, 1, none⟩ = some (.int .i64 m) ∧ Below W0.heap.size W0 w') (first | (refine (K0.out.on ?_).flat; first | with_reducible exact bel_drew (Below.refl _ _) | with_reducible exact y2 | with_reducible exact y1 | with_reducible exact y2.alloc y2.size _ | with_reducible exact y1.alloc y1.size _ | with_reducible exact (bel_drew (Below.refl _ _)).alloc (Nat.le_refl _) _ | with_reducible exact bel_drew ((Below.refl _ _).alloc (Nat.le_refl _) _) | with_reducible exact (y2.setCell y2.size _).setCell y2.size _ | with_reducible exact (y2.setCell y1.size _).setCell y1.size _ | with_reducible exact (y2.setCell (Nat.le_refl _) _).setCell (Nat.le_refl _) _) | go_keep) ((first
        | (go_at_call 51; (with_reducible refine (DL.out _).mono ?_); rintro e x1 ⟨rfl, hx1⟩; (first | have y1 := undrewD1 hx1 | have y1 := undrewP hx1))
        | (go_at_call 50; (with_reducible refine (BO.out _ (SinesOK.below E0.out (by first | exact y1 | exact y1.alloc y1.size _))).mono ?_); rintro e x2 ⟨rfl, hx2⟩; (first | have y2 := onw1 y1 hx2 | have y2 := onw y1 hx2); (first | (have r := Z2.l1 hx2; have rr := Lib.hid r; obtain ⟨q0, q1, q2, q3⟩ := r) | (have r := (Z2.d1 hx1).go hx2; have rr := Lib.hid r; obtain ⟨q0, q1, q2, q3⟩ := r) | skip))))
      all_goals
        rename_i held
        have S1 := Lib.hid held.2.2.2.2.2.2.2.2.2.2
        clear held
        go_wp2_with fail
        go_meet
        case rel => first | exact ⟨_, rfl, rfl, Lib.hid (C2.new _ _ _ _), S1⟩ | exact ⟨_, rfl, rfl, Lib.hid (set2' rr.out _ _), S1⟩
    case rest =>
      obtain ⟨r, rfl, rfl, CQ, S2⟩ := hcut
      obtain ⟨q0, q1, _, _⟩ := CQ.out
      have HB1 := Lib.hid (HB0.out.trans (S2.out.mono HB0.out.size))
      clear k0 k1 k2 k3 k4 k5 k6 k7 k8 k9 k10 K0 CQ
      go_wp2_with fail
      go_ret
      exact ⟨rfl, HB1.out⟩
end Go.Proofs.YtmdjogjcdjaafaaDoor
