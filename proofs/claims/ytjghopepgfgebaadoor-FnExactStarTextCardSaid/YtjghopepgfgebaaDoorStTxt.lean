/-
  Stars as texts: the contracts of l05Signed, l05Text, StarText (package spec) and of StarText (package impl).
-/
import Derived.Test.YtjghopepgfgebaaDoorAngT
import Derived.Test.YtjghopepgfgebaaDoorSplit
import Derived.Test.YtjghopepgfgebaaDoorShelfJoin
import Derived.Test.YtjghopepgfgebaaDoorStar1
import Derived.Deep.RegionHeld3
import Derived.Deep.LoopGhost
import Derived.Deep.OwnRows
import Derived.Lib.Join
import Derived.Lib.ItoaMem
namespace Go.Proofs.YtjghopepgfgebaaDoor
open Go.RowKit
set_option linter.unusedVariables false

theorem name_leT (s : ByteArray) (h : nameB s.data.toList = true) : s.size ≤ 10 := by
  rcases (show 10 < s.size ∨ s.size ≤ 10 by omega) with c | c
  · rw [nameB_long s c] at h; cases h
  · exact c
theorem star_5 (s : ByteArray) (a b c d : Int) (h : starB s a b c d = true) : s.size ≤ 10 ∧ (0 ≤ a ∧ a ≤ 359999) ∧ (-90000 ≤ b ∧ b ≤ 90000) ∧ (-200 ≤ c ∧ c ≤ 800) ∧ (-50 ≤ d ∧ d ≤ 250) := by
  unfold starB dirB at h
  simp only [Bool.and_eq_true, inR_1] at h
  exact ⟨name_leT s h.1, h.2.1.1, h.2.1.2, h.2.2.1, h.2.2.2⟩
/-- What StarText returns. -/
def sttxt (s : ByteArray) (a b c d : Int) : ByteArray := if starB s a b c d = true then s ++ ⟨#[32]⟩ ++ ⟨(Lib.itoa a).toArray⟩ ++ ⟨#[32]⟩ ++ ⟨(Lib.itoa b).toArray⟩ ++ ⟨#[32]⟩ ++ ⟨(Lib.itoa c).toArray⟩ ++ ⟨#[32]⟩ ++ ⟨(Lib.itoa d).toArray⟩ else ⟨#[]⟩
theorem itoa_m (n : Int) (h : n < 0) : (⟨#[45]⟩ : ByteArray) ++ ⟨(Lib.itoa (-n)).toArray⟩ = ⟨(Lib.itoa n).toArray⟩ := by
  obtain ⟨u, hu⟩ : ∃ u : Nat, n = -(u : Int) := ⟨n.natAbs, by omega⟩
  subst hu
  rw [Int.neg_neg, Lib.itoa_nonneg, Lib.itoa_neg u (by omega), show (⟨#[45]⟩ : ByteArray) = ⟨([45] : List UInt8).toArray⟩ from rfl, app_b]
  rfl
set_option maxHeartbeats 1000000 in
theorem l05Signed_any (n : Int) (h0 : -1000000 ≤ n) (h1 : n ≤ 1000000) (w : World) :
    Calls Tryd.prog 91 #[.int .i64 n] w fun e w' => e = .returned (.string ⟨(Lib.itoa n).toArray⟩) ∧ Below w.heap.size w w' := by
  by_cases hn : n < 0
  · have D := Lib.hid (fun w => l01Dec_any (-n) w (by omega) (by omega))
    have M := Lib.hid (itoa_m n hn)
    have l1 := itoa_20 (-n) (by omega) (by omega)
    rw [← size_of] at l1
    generalize (⟨(Lib.itoa (-n)).toArray⟩ : ByteArray) = X at *
    generalize (⟨(Lib.itoa n).toArray⟩ : ByteArray) = Y at *
    have g1 : ¬ 9223372036854775807 < 1 + X.size := by omega
    go_enter Tryd.func91, Tryd.ntmps91
    go_wp2_with fail
    with_reducible refine (D.out _).mono ?_
    rintro e w1 ⟨rfl, hb⟩
    have HB := Lib.hid hb
    clear hb
    go_wp2_with fail
    go_ret
    exact ⟨ret_str M.out, HB.out⟩
  · have D := Lib.hid (fun w => l01Dec_any n w (by omega) (by omega))
    generalize (⟨(Lib.itoa n).toArray⟩ : ByteArray) = Y at *
    go_enter Tryd.func91, Tryd.ntmps91
    go_wp2_with fail
    with_reducible refine (D.out _).mono ?_
    rintro e w1 ⟨rfl, hb⟩
    have HB := Lib.hid hb
    clear hb
    go_wp2_with fail
    go_ret
    exact ⟨rfl, HB.out⟩
theorem keepS5 {w W W' : World} {g : Nat} {v0 v1 v2 v3 v4 : Value} (h : W.cell? ⟨g, 0, none⟩ = some v0 ∧ W.cell? ⟨g, 1, none⟩ = some v1 ∧ W.cell? ⟨g, 2, none⟩ = some v2 ∧ W.cell? ⟨g, 3, none⟩ = some v3 ∧ W.cell? ⟨g, 4, none⟩ = some v4 ∧ Below w.heap.size w W) (hb : Below W.heap.size W W') :
    W'.cell? ⟨g, 0, none⟩ = some v0 ∧ W'.cell? ⟨g, 1, none⟩ = some v1 ∧ W'.cell? ⟨g, 2, none⟩ = some v2 ∧ W'.cell? ⟨g, 3, none⟩ = some v3 ∧ W'.cell? ⟨g, 4, none⟩ = some v4 ∧ Below w.heap.size w W' := by
  obtain ⟨h0, h1, h2, h3, h4, hB⟩ := h
  have l0 := World.block_lt_of_cell? W ⟨g, 0, none⟩ h0
  obtain ⟨k, _⟩ := bcell hb
  exact ⟨(k _ _ l0).trans h0, (k _ _ l0).trans h1, (k _ _ l0).trans h2, (k _ _ l0).trans h3, (k _ _ l0).trans h4, hB.trans (hb.mono hB.size)⟩
theorem undrewS5 {W u : World} (h : Below W.drew.heap.size W.drew u) : Below W.heap.size W u := ⟨h.os, h.tape, h.output, h.size, h.block⟩
theorem join_5 (x y z u v : ByteArray) : (⟨(Lib.join ([x, y, z, u, v].map (·.data.toList)) [32]).toArray⟩ : ByteArray) = x ++ ⟨#[32]⟩ ++ y ++ ⟨#[32]⟩ ++ z ++ ⟨#[32]⟩ ++ u ++ ⟨#[32]⟩ ++ v := by
  apply WideShapes.bytes_inj
  simp [ByteArray.data_append, Lib.join_cons, Lib.joinTail]

set_option maxRecDepth 100000 in
set_option maxHeartbeats 4000000 in
theorem l05Text_at (g : Nat) (s : ByteArray) (a b c d : Int) (h : starB s a b c d = true) (w : World) (hat : StarAt w g 0 ⟨s, a, b, c, d⟩) :
    Calls Tryd.prog 52 #[.pointer (some ⟨g, 0, none⟩)] w fun e w' => e = .returned (.string (s ++ ⟨#[32]⟩ ++ ⟨(Lib.itoa a).toArray⟩ ++ ⟨#[32]⟩ ++ ⟨(Lib.itoa b).toArray⟩ ++ ⟨#[32]⟩ ++ ⟨(Lib.itoa c).toArray⟩ ++ ⟨#[32]⟩ ++ ⟨(Lib.itoa d).toArray⟩)) ∧ Below w.heap.size w w' := by
  obtain ⟨c0, c1, c2, c3, c4⟩ := hat
  simp only [Nat.zero_add] at c0 c1 c2 c3 c4
  obtain ⟨hs, ⟨a0, a1⟩, ⟨b0, b1⟩, ⟨e0, e1⟩, d0, d1⟩ := star_5 s a b c d h
  have TA := Lib.hid (fun w => l01Dec_any a w (by omega) (by omega))
  have TB := Lib.hid (fun w => l05Signed_any b (by omega) (by omega) w)
  have TC := Lib.hid (fun w => l05Signed_any c (by omega) (by omega) w)
  have TD := Lib.hid (fun w => l05Signed_any d (by omega) (by omega) w)
  have la := itoa_20 a (by omega) (by omega)
  have lb := itoa_20 b (by omega) (by omega)
  have lc := itoa_20 c (by omega) (by omega)
  have ld := itoa_20 d (by omega) (by omega)
  rw [← size_of] at la lb lc ld
  clear h a0 a1 b0 b1 e0 e1 d0 d1
  generalize (⟨(Lib.itoa a).toArray⟩ : ByteArray) = A at *
  generalize (⟨(Lib.itoa b).toArray⟩ : ByteArray) = B0 at *
  generalize (⟨(Lib.itoa c).toArray⟩ : ByteArray) = C at *
  generalize (⟨(Lib.itoa d).toArray⟩ : ByteArray) = D0 at *
  have z0 : (s ++ ⟨#[32]⟩ : ByteArray).size = s.size + 1 := by rw [ByteArray.size_append]; rfl
  have z1 : (s ++ ⟨#[32]⟩ ++ A : ByteArray).size = s.size + 1 + A.size := by rw [ByteArray.size_append, z0]
  have z2 : (s ++ ⟨#[32]⟩ ++ A ++ ⟨#[32]⟩ : ByteArray).size = s.size + 1 + A.size + 1 := by rw [ByteArray.size_append, z1]; rfl
  have z3 : (s ++ ⟨#[32]⟩ ++ A ++ ⟨#[32]⟩ ++ B0 : ByteArray).size = s.size + 1 + A.size + 1 + B0.size := by rw [ByteArray.size_append, z2]
  have z4 : (s ++ ⟨#[32]⟩ ++ A ++ ⟨#[32]⟩ ++ B0 ++ ⟨#[32]⟩ : ByteArray).size = s.size + 1 + A.size + 1 + B0.size + 1 := by rw [ByteArray.size_append, z3]; rfl
  have z5 : (s ++ ⟨#[32]⟩ ++ A ++ ⟨#[32]⟩ ++ B0 ++ ⟨#[32]⟩ ++ C : ByteArray).size = s.size + 1 + A.size + 1 + B0.size + 1 + C.size := by rw [ByteArray.size_append, z4]
  have z6 : (s ++ ⟨#[32]⟩ ++ A ++ ⟨#[32]⟩ ++ B0 ++ ⟨#[32]⟩ ++ C ++ ⟨#[32]⟩ : ByteArray).size = s.size + 1 + A.size + 1 + B0.size + 1 + C.size + 1 := by rw [ByteArray.size_append, z5]; rfl
  have z7 : (s ++ ⟨#[32]⟩ ++ A ++ ⟨#[32]⟩ ++ B0 ++ ⟨#[32]⟩ ++ C ++ ⟨#[32]⟩ ++ D0 : ByteArray).size = s.size + 1 + A.size + 1 + B0.size + 1 + C.size + 1 + D0.size := by rw [ByteArray.size_append, z6]
  have g1 : ¬ 9223372036854775807 < s.size + 1 := by omega
  have g2 : ¬ 9223372036854775807 < (s ++ ⟨#[32]⟩ : ByteArray).size + A.size := by omega
  have g3 : ¬ 9223372036854775807 < s.size + 1 + A.size := by omega
  have g4 : ¬ 9223372036854775807 < (s ++ ⟨#[32]⟩ ++ A : ByteArray).size + 1 := by omega
  have g5 : ¬ 9223372036854775807 < s.size + 1 + A.size + 1 := by omega
  have g6 : ¬ 9223372036854775807 < (s ++ ⟨#[32]⟩ ++ A ++ ⟨#[32]⟩ : ByteArray).size + B0.size := by omega
  have g7 : ¬ 9223372036854775807 < s.size + 1 + A.size + 1 + B0.size := by omega
  have g8 : ¬ 9223372036854775807 < (s ++ ⟨#[32]⟩ ++ A ++ ⟨#[32]⟩ ++ B0 : ByteArray).size + 1 := by omega
  have g9 : ¬ 9223372036854775807 < s.size + 1 + A.size + 1 + B0.size + 1 := by omega
  have g10 : ¬ 9223372036854775807 < (s ++ ⟨#[32]⟩ ++ A ++ ⟨#[32]⟩ ++ B0 ++ ⟨#[32]⟩ : ByteArray).size + C.size := by omega
  have g11 : ¬ 9223372036854775807 < s.size + 1 + A.size + 1 + B0.size + 1 + C.size := by omega
  have g12 : ¬ 9223372036854775807 < (s ++ ⟨#[32]⟩ ++ A ++ ⟨#[32]⟩ ++ B0 ++ ⟨#[32]⟩ ++ C : ByteArray).size + 1 := by omega
  have g13 : ¬ 9223372036854775807 < s.size + 1 + A.size + 1 + B0.size + 1 + C.size + 1 := by omega
  have g14 : ¬ 9223372036854775807 < (s ++ ⟨#[32]⟩ ++ A ++ ⟨#[32]⟩ ++ B0 ++ ⟨#[32]⟩ ++ C ++ ⟨#[32]⟩ : ByteArray).size + D0.size := by omega
  have g15 : ¬ 9223372036854775807 < s.size + 1 + A.size + 1 + B0.size + 1 + C.size + 1 + D0.size := by omega
  clear z0 z1 z2 z3 z4 z5 z6 z7
  have K : Hid (w.cell? ⟨g, 0, none⟩ = some (.string s) ∧ w.cell? ⟨g, 1, none⟩ = some (.int .i64 a) ∧ w.cell? ⟨g, 2, none⟩ = some (.int .i64 b) ∧ w.cell? ⟨g, 3, none⟩ = some (.int .i64 c) ∧ w.cell? ⟨g, 4, none⟩ = some (.int .i64 d) ∧ Below w.heap.size w w) := Lib.hid ⟨c0, c1, c2, c3, c4, Below.refl _ _⟩
  go_enter Tryd.func52, Tryd.ntmps52
  go_wp2_with fail
  go_region_held3 (fun w' => w'.cell? ⟨g, 0, none⟩ = some (.string s) ∧ w'.cell? ⟨g, 1, none⟩ = some (.int .i64 a) ∧ w'.cell? ⟨g, 2, none⟩ = some (.int .i64 b) ∧ w'.cell? ⟨g, 3, none⟩ = some (.int .i64 c) ∧ w'.cell? ⟨g, 4, none⟩ = some (.int .i64 d) ∧ Below w.heap.size w w') (first | (exact keepS5 K.out (bel_drew (Below.refl _ _))) | (exact keepS5 K.out y4) | (exact keepS5 K.out y3) | (exact keepS5 K.out y2) | (exact keepS5 K.out y1) | go_keep) ((first
    | (go_at_call 67; (with_reducible refine (TA.out _).mono ?_); rintro e x1 ⟨rfl, hx1⟩; have y1 := undrewS5 hx1)
    | (go_at_call 91; (first
      | ((with_reducible refine (TD.out _).mono ?_); rintro e x4 ⟨rfl, hx4⟩; have y4 := y3.trans (hx4.mono y3.size))
      | ((with_reducible refine (TC.out _).mono ?_); rintro e x3 ⟨rfl, hx3⟩; have y3 := y2.trans (hx3.mono y2.size))
      | ((with_reducible refine (TB.out _).mono ?_); rintro e x2 ⟨rfl, hx2⟩; have y2 := y1.trans (hx2.mono y1.size))))))
  rename_i held
  have HB := Lib.hid held.2.2.2.2.2
  clear held
  go_wp2_with fail
  go_ret
  exact ⟨rfl, HB.out⟩

set_option maxRecDepth 100000 in
set_option maxHeartbeats 1000000 in
theorem specStT_any (s : ByteArray) (a b c d : Int) (w : World) :
    Calls Tryd.prog 20 #[.agg #[.string s, .int .i64 a, .int .i64 b, .int .i64 c, .int .i64 d]] w fun e w' => e = .returned (.string (sttxt s a b c d)) ∧ Below w.heap.size w w' := by
  unfold sttxt
  have O := Lib.hid (fun (w : World) g h => l05One_at g 0 ⟨s, a, b, c, d⟩ w h)
  have hgd : StarV.good ⟨s, a, b, c, d⟩ = starB s a b c d := rfl
  rw [hgd] at O
  clear hgd
  have A0 : Hid (StarAt (w.alloc (.cells #[.string s, .int .i64 a, .int .i64 b, .int .i64 c, .int .i64 d] 32)) w.heap.size 0 ⟨s, a, b, c, d⟩) := Lib.hid ⟨by simp, by simp, by simp, by simp, by simp⟩
  cases h : starB s a b c d with
  | false =>
    rw [if_neg (by simp)]
    rw [h] at O
    clear h
    go_enter Tryd.func20, Tryd.ntmps20
    go_wp2_with fail
    refine (O.out _ _ A0.out).mono ?_
    rintro e w1 ⟨rfl, m, rfl⟩
    go_wp2_with fail
    go_ret
    exact ⟨rfl, bel_drewNS ((Below.refl _ _).alloc (Nat.le_refl _) _) _⟩
  | true =>
    rw [if_pos rfl]
    have T := Lib.hid (fun (w : World) g hat => l05Text_at g s a b c d h w hat)
    rw [h] at O
    clear h
    generalize s ++ ⟨#[32]⟩ ++ ⟨(Lib.itoa a).toArray⟩ ++ ⟨#[32]⟩ ++ ⟨(Lib.itoa b).toArray⟩ ++ ⟨#[32]⟩ ++ ⟨(Lib.itoa c).toArray⟩ ++ ⟨#[32]⟩ ++ ⟨(Lib.itoa d).toArray⟩ = r at *
    go_enter Tryd.func20, Tryd.ntmps20
    go_wp2_with fail
    refine (O.out _ _ A0.out).mono ?_
    rintro e w1 ⟨rfl, m, rfl⟩
    have A1 : Hid (StarAt ((w.alloc (.cells #[.string s, .int .i64 a, .int .i64 b, .int .i64 c, .int .i64 d] 32)).drewN m) w.heap.size 0 ⟨s, a, b, c, d⟩) := Lib.hid ⟨A0.out.c0, A0.out.c1, A0.out.c2, A0.out.c3, A0.out.c4⟩
    have HB0 : Hid (Below w.heap.size w ((w.alloc (.cells #[.string s, .int .i64 a, .int .i64 b, .int .i64 c, .int .i64 d] 32)).drewN m)) := Lib.hid (bel_drewNS ((Below.refl _ _).alloc (Nat.le_refl _) _) _)
    go_wp2_with fail
    refine (T.out _ _ A1.out).mono ?_
    rintro e w1 ⟨rfl, hb⟩
    have HB := Lib.hid (HB0.out.trans (hb.mono HB0.out.size))
    clear hb
    go_wp2_with fail
    go_ret
    exact ⟨rfl, HB.out⟩

/-- The words so far. -/
def nAt (a b c d : Int) (j : Nat) : Int := [a, b, c, d].getD j 0
def wordsT (s : ByteArray) (a b c d : Int) (j : Nat) : List ByteArray := s :: (([a, b, c, d].take j).map fun n => (⟨(Lib.itoa n).toArray⟩ : ByteArray))
theorem wordsT_next (s : ByteArray) (a b c d : Int) (j : Nat) (h : j < 4) : wordsT s a b c d (j + 1) = wordsT s a b c d j ++ [⟨(Lib.itoa (nAt a b c d j)).toArray⟩] := by
  rcases (by omega : j = 0 ∨ j = 1 ∨ j = 2 ∨ j = 3) with rfl | rfl | rfl | rfl <;> rfl
theorem wordsT_len (s : ByteArray) (a b c d : Int) (j : Nat) (h : j ≤ 4) : (wordsT s a b c d j).length = j + 1 := by
  rcases (by omega : j = 0 ∨ j = 1 ∨ j = 2 ∨ j = 3 ∨ j = 4) with rfl | rfl | rfl | rfl | rfl <;> rfl
theorem ix4_0 (a b c d : Int) (w : World) : (Instr.index 80 (.agg #[.int .i64 a, .int .i64 b, .int .i64 c, .int .i64 d]) (.int .i64 ((0 : Nat) : Int))).run Tryd.prog w = .ok (.int .i64 (nAt a b c d 0)) w := by kernel_rfl
theorem ix4_1 (a b c d : Int) (w : World) : (Instr.index 80 (.agg #[.int .i64 a, .int .i64 b, .int .i64 c, .int .i64 d]) (.int .i64 ((1 : Nat) : Int))).run Tryd.prog w = .ok (.int .i64 (nAt a b c d 1)) w := by kernel_rfl
theorem ix4_2 (a b c d : Int) (w : World) : (Instr.index 80 (.agg #[.int .i64 a, .int .i64 b, .int .i64 c, .int .i64 d]) (.int .i64 ((2 : Nat) : Int))).run Tryd.prog w = .ok (.int .i64 (nAt a b c d 2)) w := by kernel_rfl
theorem ix4_3 (a b c d : Int) (w : World) : (Instr.index 80 (.agg #[.int .i64 a, .int .i64 b, .int .i64 c, .int .i64 d]) (.int .i64 ((3 : Nat) : Int))).run Tryd.prog w = .ok (.int .i64 (nAt a b c d 3)) w := by kernel_rfl
theorem idx4 (a b c d : Int) (k : Nat) (hk : k < 4) (w : World) : (Instr.index 80 (.agg #[.int .i64 a, .int .i64 b, .int .i64 c, .int .i64 d]) (.int .i64 (k : Int))).run Tryd.prog w = .ok (.int .i64 (nAt a b c d k)) w := by
  rcases (by omega : k = 0 ∨ k = 1 ∨ k = 2 ∨ k = 3) with rfl | rfl | rfl | rfl
  · exact ix4_0 a b c d w
  · exact ix4_1 a b c d w
  · exact ix4_2 a b c d w
  · exact ix4_3 a b c d w
theorem ownsRow_belT {B : Nat} {w w' : World} {e : TypeId} {v : Value} {n : Nat} {xs : List Value} (h : w.ownsRow B e 1 v n xs) (hb : Below w.heap.size w w') : w'.ownsRow B e 1 v n xs :=
  h.kept (⟨hb.os, hb.tape, hb.output, hb.size, fun k hk _ => hb.block k hk⟩ : w.grownBy w' none) (by cases hv : v.ownBlock <;> simp)

set_option maxRecDepth 100000 in
set_option maxHeartbeats 4000000 in
theorem implStT_any (s : ByteArray) (a b c d : Int) (hmax : s.size ≤ maxLen) (w : World) (ht : TabOK w) :
    Calls Tryd.prog 22 #[.agg #[.string s, .int .i64 a, .int .i64 b, .int .i64 c, .int .i64 d]] w fun e w' => e = .returned (.string (sttxt s a b c d)) ∧ Below w.heap.size w w' := by
  unfold sttxt
  have V := Lib.hid (fun w => validStar_any s a b c d hmax w)
  have E := Lib.hid ht
  clear ht hmax
  cases h : starB s a b c d with
  | false =>
    rw [if_neg (by simp)]
    rw [h] at V
    clear h
    go_enter Tryd.func22, Tryd.ntmps22
    go_wp2_with fail
    refine (V.out _).mono ?_
    rintro e w1 ⟨rfl, hb⟩
    have hsw1 := hb.size
    try simp at hsw1
    obtain ⟨hcw1, hfw1⟩ := bcell hb
    have HBw1 : Hid (Below w.heap.size w w1) := by
      apply Lib.hid
      refine Below.trans ?_ (hb.mono ?_)
      · repeat (first | exact Below.refl _ _ | refine Below.setCell ?_ (by first | (simp; done) | omega | (simp; omega)) _ | refine Below.alloc ?_ (by first | (simp; done) | omega | (simp; omega)) _)
      · first | (simp; done) | omega | (simp; omega)
    have hzw1 : w.heap.size < w1.heap.size := by have := hb.size; (try simp at this); omega
    clear hb
    go_wp2_with fail
    go_ret
    refine ⟨rfl, ?_⟩
    repeat (first | exact Below.refl _ _ | exact HBw1.out | refine Below.setCell ?_ (by first | (simp; done) | omega | (simp; omega)) _ | refine Below.alloc ?_ (by first | (simp; done) | omega | (simp; omega)) _ | refine bel_drew ?_)
  | true =>
    rw [if_pos rfl]
    rw [h] at V
    obtain ⟨hs, ⟨a0, a1⟩, ⟨b0, b1⟩, ⟨e0, e1⟩, d0, d1⟩ := star_5 s a b c d h
    have IX := Lib.hid (idx4 a b c d)
    have DE : Hid (∀ j, j < 4 → ∀ w, TabOK w → Calls Tryd.prog 33 #[.int .i64 (nAt a b c d j)] w fun e w' => e = .returned (.string ⟨(Lib.itoa (nAt a b c d j)).toArray⟩) ∧ Below w.heap.size w w') := Lib.hid (fun j hj w ht => implDec_any _ w (by rcases (by omega : j = 0 ∨ j = 1 ∨ j = 2 ∨ j = 3) with rfl | rfl | rfl | rfl <;> simp [nAt] <;> omega) (by rcases (by omega : j = 0 ∨ j = 1 ∨ j = 2 ∨ j = 3) with rfl | rfl | rfl | rfl <;> simp [nAt] <;> omega) ht)
    have WN := Lib.hid (wordsT_next s a b c d)
    have WL := Lib.hid (wordsT_len s a b c d)
    have la := itoa_20 a (by omega) (by omega)
    have lb := itoa_20 b (by omega) (by omega)
    have lc := itoa_20 c (by omega) (by omega)
    have ld := itoa_20 d (by omega) (by omega)
    have JJ : Hid ((⟨(Lib.join ((wordsT s a b c d 4).map (·.data.toList)) [32]).toArray⟩ : ByteArray) = s ++ ⟨#[32]⟩ ++ ⟨(Lib.itoa a).toArray⟩ ++ ⟨#[32]⟩ ++ ⟨(Lib.itoa b).toArray⟩ ++ ⟨#[32]⟩ ++ ⟨(Lib.itoa c).toArray⟩ ++ ⟨#[32]⟩ ++ ⟨(Lib.itoa d).toArray⟩) := Lib.hid (join_5 s _ _ _ _)
    have JL : Hid ((Lib.join ((wordsT s a b c d 4).map (·.data.toList)) [32]).length ≤ 140737488355328) := Lib.hid (by
      rw [← size_of, JJ.out]
      simp only [ByteArray.size_append, size_of]
      show s.size + 1 + _ + 1 + _ + 1 + _ + 1 + _ ≤ 140737488355328
      omega)
    have W0' : Hid (wordsT s a b c d 0 = [s]) := Lib.hid rfl
    clear h a0 a1 b0 b1 e0 e1 d0 d1 la lb lc ld
    generalize wordsT s a b c d = W at *
    generalize nAt a b c d = N at *
    generalize s ++ ⟨#[32]⟩ ++ ⟨(Lib.itoa a).toArray⟩ ++ ⟨#[32]⟩ ++ ⟨(Lib.itoa b).toArray⟩ ++ ⟨#[32]⟩ ++ ⟨(Lib.itoa c).toArray⟩ ++ ⟨#[32]⟩ ++ ⟨(Lib.itoa d).toArray⟩ = r at *
    obtain ⟨i0, hi, hzz⟩ := Option.map_eq_some_iff.1 info_str
    simp only [Prod.mk.injEq] at hzz
    obtain ⟨hz0, hz1, hz2⟩ := hzz
    have HI0 := Lib.hid hi
    have HZ0 := Lib.hid hz0
    have HZ1 := Lib.hid hz1
    have HZ2 := Lib.hid hz2
    clear hi hz0 hz1 hz2
    obtain ⟨W0, hW0⟩ : ∃ W0, W0 = w.alloc (.cells #[.string s, .int .i64 a, .int .i64 b, .int .i64 c, .int .i64 d] 32) := ⟨_, rfl⟩
    have K0 : Hid (W0.cell? ⟨w.heap.size, 0, none⟩ = some (.string s) ∧ W0.cell? ⟨w.heap.size, 1, none⟩ = some (.int .i64 a) ∧ W0.cell? ⟨w.heap.size, 2, none⟩ = some (.int .i64 b) ∧ W0.cell? ⟨w.heap.size, 3, none⟩ = some (.int .i64 c) ∧ W0.cell? ⟨w.heap.size, 4, none⟩ = some (.int .i64 d) ∧ Below w.heap.size w W0) := Lib.hid (by rw [hW0]; exact ⟨by simp, by simp, by simp, by simp, by simp, (Below.refl _ _).alloc (Nat.le_refl _) _⟩)
    have HW := Lib.hid hW0
    clear hW0
    go_enter Tryd.func22, Tryd.ntmps22
    obtain ⟨k0, k1, k2, k3, k4, k5⟩ := K0.out
    go_wp2_with fail
    rw [← HW.out]
    clear HW
    refine (V.out _).mono ?_
    rintro e w1 ⟨rfl, hb⟩
    have K1 := Lib.hid (keepS5 K0.out hb)
    clear hb k0 k1 k2 k3 k4 k5
    have HB1 := Lib.hid K1.out.2.2.2.2.2
    have HB2 : Hid (Below w.heap.size w (w1.alloc (.cells #[.string s] 9))) := Lib.hid (HB1.out.alloc HB1.out.size _)
    have OW : Hid ((w1.alloc (.cells #[.string s] 9)).ownsRow w.heap.size 9 1 (.slice (some ⟨w1.heap.size, 0, none⟩) 1 1) (W 0).length ((W 0).map Value.string)) := Lib.hid (by
      rw [W0'.out]
      exact Go.Joins.ownsRow_le (World.ownsRow_lit (base := w1.heap.size) (e := 9) (size := 1) w1 #[.string s] 1 (Nat.le_refl _) (by decide) rfl) HB1.out.size)
    have hl1 : w.heap.size < w1.heap.size := World.block_lt_of_cell? w1 ⟨w.heap.size, 0, none⟩ K1.out.1
    obtain ⟨k0, k1, k2, k3, k4, k5⟩ := keepS5 K1.out ((Below.refl w1.heap.size w1).alloc (Nat.le_refl _) (.cells #[.string s] 9))
    have c0 := K1.out.1
    clear k5
    go_wp2_with fail
    clear k0 k1 k2 k3 k4 c0
    go_loopg [3, 21] 4 (fun kx s3 s21 wr => ∃ j : Nat, s21 = .int .i64 (j : Int) ∧ j ≤ 4 ∧ kx = 4 - j ∧ Hid (wr.ownsRow w.heap.size 9 1 s3 (W j).length ((W j).map Value.string)) ∧ Hid (Below w.heap.size w wr))
    case atStart => exact ⟨0, rfl, Nat.zero_le _, rfl, OW, HB2⟩
    case round =>
      obtain ⟨j, rfl, hj, rfl, HO, HB⟩ := hrel
      by_cases hlt : j < 4
      · have j0 : (0 : Int) ≤ (j : Int) := by omega
        have j1 : (j : Int) < 4 := by omega
        have ix := IX.out j hlt
        have DJ := Lib.hid (DE.out j hlt)
        have WJ := Lib.hid (WN.out j hlt)
        have wl := WL.out j hj
        generalize N j = n at *
        generalize (⟨(Lib.itoa n).toArray⟩ : ByteArray) = tx at *
        go_wp2_with fail
        refine (DJ.out _ (E.out.below HB.out)).mono ?_
        rintro e w2 ⟨rfl, hb⟩
        have HB3 := Lib.hid (HB.out.trans (hb.mono HB.out.size))
        have hown := ownsRow_belT HO.out hb
        clear hb ix
        have hi := HI0.out
        have hz0 := HZ0.out
        have hz1 := HZ1.out
        have hz2 := HZ2.out
        generalize W j = L at *
        go_wp2_with (at_builtin; refine wpList_append_own _ rfl _ _ 69 rfl w.heap.size 9 i0 (.string ByteArray.empty) 1 16 Tryd.underlying69 hi hz0 hz1 hz2 rfl (by decide) _ _ _ rfl (hown.alloc _) ⟨w2.heap.size, 0, none⟩ 1 1 [.string tx] rfl rfl ?c1 ?c2 ?c3 ?c4 ?c5 ?_)
        case c1 => exact one_cell_s _ _ _
        case c2 => exact one_plain_s _
        case c3 => unfold maxLen; omega
        case c4 => omega
        case c5 => have hs4 := HB3.out.size; simp; omega
        intro v' w5 hown' hgrow _
        obtain ⟨hb2, hs2⟩ := own_below hown HB3.out HB3.out.size hgrow
        have ho : w5.ownsRow w.heap.size 9 1 v' (W (j + 1)).length ((W (j + 1)).map Value.string) := by
          rw [WJ.out, List.map_append, List.length_append]
          rw [wl]
          exact hown'
        have HO2 := Lib.hid ho
        have HB5 := Lib.hid hb2
        clear hown hown' hgrow ho hb2 hs2 hi hz0 hz1 hz2
        go_wp2_with fail
        go_roundg (4 - (j + 1))
        case measure => omega
        case rel => exact ⟨j + 1, by go_num, by omega, by omega, HO2, HB5⟩
      · obtain rfl : j = 4 := by omega
        have wl := WL.out 4 (by omega)
        have hown := HO.out
        obtain ⟨g, cap, rfl⟩ := Go.Joins.ownsRow_form hown (by omega)
        have hcl : ∀ (j : Nat) (x : ByteArray), (W 4)[j]? = some x → wr.cell? ⟨g, 0 + j, none⟩ = some (.string x) := by
          intro j x hx
          have hjl : j < (W 4).length := (List.getElem?_eq_some_iff.1 hx).1
          rw [Nat.zero_add, hown.cellAt j (by omega), List.getElem?_map, hx]
          rfl
        have hblk := (hown.lt _ rfl).2
        have hcap : (W 4).length ≤ cap := by
          rcases hown.2 with ⟨hv, _⟩ | ⟨g1, cap1, cur, hv, _, _, hc, _⟩
          · cases hv
          · injection hv with _ _ e3; omega
        have hjn := Tryd.strings_Join g 0 cap (W 4) ⟨#[32]⟩ wr hcl hblk (by omega) hcap JL.out
        rw [show (⟨#[32]⟩ : ByteArray).data.toList = [32] from rfl, JJ.out] at hjn
        have JN := Lib.hid hjn
        clear hjn hcl hown hcap
        rw [wl] at JN ⊢
        go_wp2_with fail
        refine JN.out.mono ?_
        rintro e w2 ⟨rfl, hb⟩
        have HB3 := Lib.hid (HB.out.trans (hb.mono HB.out.size))
        clear hb
        go_wp2_with fail
        go_ret
        exact ⟨rfl, HB3.out⟩
end Go.Proofs.YtjghopepgfgebaaDoor
