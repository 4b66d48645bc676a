/-
  Projectors as texts: the contracts of l10Text, ProjectorText (package spec) and of ProjectorText (package impl).
-/
import Derived.Test.YtlklcpnnaolbeaaDoorAngT
import Derived.Test.YtlklcpnnaolbeaaDoorShelfJoin
import Derived.Test.YtlklcpnnaolbeaaDoorProj1
import Derived.Test.YtlklcpnnaolbeaaDoorProjV
import Derived.Deep.RegionHeld3
import Derived.Lib.Join
namespace Go.Proofs.YtlklcpnnaolbeaaDoor
open Go.RowKit
set_option linter.unusedVariables false

theorem name_leP (s : ByteArray) (h : nameB s.data.toList = true) : s.size ≤ 10 := by
  rcases (show 10 < s.size ∨ s.size ≤ 10 by omega) with c | c
  · rw [nameB_long s c] at h; cases h
  · exact c
theorem proj_5 (s : ByteArray) (a b c d : Int) (h : starB s a b c d = true) : s.size ≤ 10 ∧ (0 ≤ a ∧ a ≤ 359999) ∧ (-90000 ≤ b ∧ b ≤ 90000) ∧ (5000 ≤ c ∧ c ≤ 120000) ∧ (1 ≤ d ∧ d ≤ 1000) := by
  unfold starB at h
  simp only [Bool.and_eq_true, inR_1] at h
  exact ⟨name_leP s h.1, h.2.1, h.2.2.1, h.2.2.2.1, h.2.2.2.2⟩
theorem angL_lenP (a : Int) (h0 : -359999 ≤ a) (h1 : a ≤ 359999) : (⟨(angL a).toArray⟩ : ByteArray).size ≤ 50 := by
  rw [size_of]
  have e0 : 0 ≤ absI a ∧ absI a ≤ 359999 := by unfold absI; split <;> omega
  have h2 := itoa_20 (absI a / 1000) (by omega) (by omega)
  have h3 := dec3_len (absI a % 1000) (by omega) (by omega)
  unfold angL
  simp only [List.length_append, List.length_cons, List.length_nil]
  split <;> simp <;> omega
/-- What ProjectorText returns. -/
def pjtxt (s : ByteArray) (a b c d : Int) : ByteArray := if starB s a b c d = true then s ++ ⟨#[32]⟩ ++ ⟨(angL a).toArray⟩ ++ ⟨#[32]⟩ ++ ⟨(angL b).toArray⟩ ++ ⟨#[32]⟩ ++ ⟨(angL c).toArray⟩ ++ ⟨#[32]⟩ ++ ⟨(Lib.itoa d).toArray⟩ else ⟨#[]⟩
theorem keepP5 {w W W' : World} {g : Nat} {v0 v1 v2 v3 v4 : Value} (h : W.cell? ⟨g, 0, none⟩ = some v0 ∧ W.cell? ⟨g, 1, none⟩ = some v1 ∧ W.cell? ⟨g, 2, none⟩ = some v2 ∧ W.cell? ⟨g, 3, none⟩ = some v3 ∧ W.cell? ⟨g, 4, none⟩ = some v4 ∧ Below w.heap.size w W) (hb : Below W.heap.size W W') :
    W'.cell? ⟨g, 0, none⟩ = some v0 ∧ W'.cell? ⟨g, 1, none⟩ = some v1 ∧ W'.cell? ⟨g, 2, none⟩ = some v2 ∧ W'.cell? ⟨g, 3, none⟩ = some v3 ∧ W'.cell? ⟨g, 4, none⟩ = some v4 ∧ Below w.heap.size w W' := by
  obtain ⟨h0, h1, h2, h3, h4, hB⟩ := h
  have l0 := World.block_lt_of_cell? W ⟨g, 0, none⟩ h0
  obtain ⟨k, _⟩ := bcell hb
  exact ⟨(k _ _ l0).trans h0, (k _ _ l0).trans h1, (k _ _ l0).trans h2, (k _ _ l0).trans h3, (k _ _ l0).trans h4, hB.trans (hb.mono hB.size)⟩
theorem undrewP5 {W u : World} (h : Below W.drew.heap.size W.drew u) : Below W.heap.size W u := ⟨h.os, h.tape, h.output, h.size, h.block⟩
theorem onwPA {W u v : World} {o : Obj} (b : Below W.heap.size W u) (k : Below (u.alloc o).heap.size (u.alloc o) v) : Below W.heap.size W v := (b.alloc b.size o).trans (k.mono (b.alloc b.size o).size)
theorem join_5p (x y z u v : ByteArray) : (⟨(Lib.join ([x, y, z, u, v].map (·.data.toList)) [32]).toArray⟩ : ByteArray) = x ++ ⟨#[32]⟩ ++ y ++ ⟨#[32]⟩ ++ z ++ ⟨#[32]⟩ ++ u ++ ⟨#[32]⟩ ++ v := by
  apply WideShapes.bytes_inj
  simp [ByteArray.data_append, Lib.join_cons, Lib.joinTail]
theorem join_5at (x y z u v : ByteArray) (hx : x.size ≤ 100) (hy : y.size ≤ 100) (hz : z.size ≤ 100) (hu : u.size ≤ 100) (hv : v.size ≤ 100) (w : World) (T : TypeId) :
    Calls Tryd.prog 45 #[.slice (some ⟨w.heap.size, 0, none⟩) 5 5, .string ⟨#[32]⟩] (w.alloc (.cells #[.string x, .string y, .string z, .string u, .string v] T)) fun e w' => e = .returned (.string (x ++ ⟨#[32]⟩ ++ y ++ ⟨#[32]⟩ ++ z ++ ⟨#[32]⟩ ++ u ++ ⟨#[32]⟩ ++ v)) ∧ Below (w.alloc (.cells #[.string x, .string y, .string z, .string u, .string v] T)).heap.size (w.alloc (.cells #[.string x, .string y, .string z, .string u, .string v] T)) w' := by
  have hc : ∀ (j : Nat) q, [x, y, z, u, v][j]? = some q → (w.alloc (.cells #[.string x, .string y, .string z, .string u, .string v] T)).cell? ⟨w.heap.size, 0 + j, none⟩ = some (.string q) := by
    intro j q hj
    match j, hj with
    | 0, hj => simp at hj; subst hj; simp
    | 1, hj => simp at hj; subst hj; simp
    | 2, hj => simp at hj; subst hj; simp
    | 3, hj => simp at hj; subst hj; simp
    | 4, hj => simp at hj; subst hj; simp
  have e : (⟨(Lib.join ([x, y, z, u, v].map (·.data.toList)) [32]).toArray⟩ : ByteArray) = _ := join_5p x y z u v
  have hl : (Lib.join ([x, y, z, u, v].map (·.data.toList)) [32]).length ≤ 140737488355328 := by
    rw [← size_of, e]
    simp only [ByteArray.size_append]
    show x.size + 1 + y.size + 1 + z.size + 1 + u.size + 1 + v.size ≤ 140737488355328
    omega
  have := Tryd.strings_Join w.heap.size 0 5 [x, y, z, u, v] ⟨#[32]⟩ _ hc (by simp) (by simp) (by simp) hl
  rw [show (⟨#[32]⟩ : ByteArray).data.toList = [32] from rfl, e] at this
  exact this

set_option maxRecDepth 100000 in
set_option maxHeartbeats 4000000 in
theorem l10Text_at (g : Nat) (s : ByteArray) (a b c d : Int) (h : starB s a b c d = true) (w : World) (hat : StarAt w g 0 ⟨s, a, b, c, d⟩) :
    Calls Tryd.prog 42 #[.pointer (some ⟨g, 0, none⟩)] w fun e w' => e = .returned (.string (s ++ ⟨#[32]⟩ ++ ⟨(angL a).toArray⟩ ++ ⟨#[32]⟩ ++ ⟨(angL b).toArray⟩ ++ ⟨#[32]⟩ ++ ⟨(angL c).toArray⟩ ++ ⟨#[32]⟩ ++ ⟨(Lib.itoa d).toArray⟩)) ∧ Below w.heap.size w w' := by
  obtain ⟨c0, c1, c2, c3, c4⟩ := hat
  simp only [Nat.zero_add] at c0 c1 c2 c3 c4
  obtain ⟨hs, ⟨a0, a1⟩, ⟨b0, b1⟩, ⟨e0, e1⟩, d0, d1⟩ := proj_5 s a b c d h
  have TA := Lib.hid (fun w => l02Text_any a (by omega) (by omega) w)
  have TB := Lib.hid (fun w => l02Text_any b (by omega) (by omega) w)
  have TC := Lib.hid (fun w => l02Text_any c (by omega) (by omega) w)
  have TD := Lib.hid (fun w => l01Dec_any d w (by omega) (by omega))
  have la := angL_lenP a (by omega) (by omega)
  have lb := angL_lenP b (by omega) (by omega)
  have lc := angL_lenP c (by omega) (by omega)
  have ld := itoa_20 d (by omega) (by omega)
  rw [← size_of] at ld
  clear h a0 a1 b0 b1 e0 e1 d0 d1
  generalize (⟨(angL a).toArray⟩ : ByteArray) = A at *
  generalize (⟨(angL b).toArray⟩ : ByteArray) = B0 at *
  generalize (⟨(angL c).toArray⟩ : ByteArray) = C at *
  generalize (⟨(Lib.itoa d).toArray⟩ : ByteArray) = D0 at *
  have z0 : (s ++ ⟨#[32]⟩ : ByteArray).size = s.size + 1 := by rw [ByteArray.size_append]; rfl
  have z1 : (s ++ ⟨#[32]⟩ ++ A : ByteArray).size = s.size + 1 + A.size := by rw [ByteArray.size_append, z0]
  have z2 : (s ++ ⟨#[32]⟩ ++ A ++ ⟨#[32]⟩ : ByteArray).size = s.size + 1 + A.size + 1 := by rw [ByteArray.size_append, z1]; rfl
  have z3 : (s ++ ⟨#[32]⟩ ++ A ++ ⟨#[32]⟩ ++ B0 : ByteArray).size = s.size + 1 + A.size + 1 + B0.size := by rw [ByteArray.size_append, z2]
  have z4 : (s ++ ⟨#[32]⟩ ++ A ++ ⟨#[32]⟩ ++ B0 ++ ⟨#[32]⟩ : ByteArray).size = s.size + 1 + A.size + 1 + B0.size + 1 := by rw [ByteArray.size_append, z3]; rfl
  have z5 : (s ++ ⟨#[32]⟩ ++ A ++ ⟨#[32]⟩ ++ B0 ++ ⟨#[32]⟩ ++ C : ByteArray).size = s.size + 1 + A.size + 1 + B0.size + 1 + C.size := by rw [ByteArray.size_append, z4]
  have z6 : (s ++ ⟨#[32]⟩ ++ A ++ ⟨#[32]⟩ ++ B0 ++ ⟨#[32]⟩ ++ C ++ ⟨#[32]⟩ : ByteArray).size = s.size + 1 + A.size + 1 + B0.size + 1 + C.size + 1 := by rw [ByteArray.size_append, z5]; rfl
  have z7 : (s ++ ⟨#[32]⟩ ++ A ++ ⟨#[32]⟩ ++ B0 ++ ⟨#[32]⟩ ++ C ++ ⟨#[32]⟩ ++ D0 : ByteArray).size = s.size + 1 + A.size + 1 + B0.size + 1 + C.size + 1 + D0.size := by rw [ByteArray.size_append, z6]
  have g1 : ¬ 9223372036854775807 < s.size + 1 := by omega
  have g2 : ¬ 9223372036854775807 < (s ++ ⟨#[32]⟩ : ByteArray).size + A.size := by omega
  have g3 : ¬ 9223372036854775807 < s.size + 1 + A.size := by omega
  have g4 : ¬ 9223372036854775807 < (s ++ ⟨#[32]⟩ ++ A : ByteArray).size + 1 := by omega
  have g5 : ¬ 9223372036854775807 < s.size + 1 + A.size + 1 := by omega
  have g6 : ¬ 9223372036854775807 < (s ++ ⟨#[32]⟩ ++ A ++ ⟨#[32]⟩ : ByteArray).size + B0.size := by omega
  have g7 : ¬ 9223372036854775807 < s.size + 1 + A.size + 1 + B0.size := by omega
  have g8 : ¬ 9223372036854775807 < (s ++ ⟨#[32]⟩ ++ A ++ ⟨#[32]⟩ ++ B0 : ByteArray).size + 1 := by omega
  have g9 : ¬ 9223372036854775807 < s.size + 1 + A.size + 1 + B0.size + 1 := by omega
  have g10 : ¬ 9223372036854775807 < (s ++ ⟨#[32]⟩ ++ A ++ ⟨#[32]⟩ ++ B0 ++ ⟨#[32]⟩ : ByteArray).size + C.size := by omega
  have g11 : ¬ 9223372036854775807 < s.size + 1 + A.size + 1 + B0.size + 1 + C.size := by omega
  have g12 : ¬ 9223372036854775807 < (s ++ ⟨#[32]⟩ ++ A ++ ⟨#[32]⟩ ++ B0 ++ ⟨#[32]⟩ ++ C : ByteArray).size + 1 := by omega
  have g13 : ¬ 9223372036854775807 < s.size + 1 + A.size + 1 + B0.size + 1 + C.size + 1 := by omega
  have g14 : ¬ 9223372036854775807 < (s ++ ⟨#[32]⟩ ++ A ++ ⟨#[32]⟩ ++ B0 ++ ⟨#[32]⟩ ++ C ++ ⟨#[32]⟩ : ByteArray).size + D0.size := by omega
  have g15 : ¬ 9223372036854775807 < s.size + 1 + A.size + 1 + B0.size + 1 + C.size + 1 + D0.size := by omega
  clear z0 z1 z2 z3 z4 z5 z6 z7
  have K : Hid (w.cell? ⟨g, 0, none⟩ = some (.string s) ∧ w.cell? ⟨g, 1, none⟩ = some (.int .i64 a) ∧ w.cell? ⟨g, 2, none⟩ = some (.int .i64 b) ∧ w.cell? ⟨g, 3, none⟩ = some (.int .i64 c) ∧ w.cell? ⟨g, 4, none⟩ = some (.int .i64 d) ∧ Below w.heap.size w w) := Lib.hid ⟨c0, c1, c2, c3, c4, Below.refl _ _⟩
  go_enter Tryd.func42, Tryd.ntmps42
  go_wp2_with fail
  go_region_held3 (fun w' => w'.cell? ⟨g, 0, none⟩ = some (.string s) ∧ w'.cell? ⟨g, 1, none⟩ = some (.int .i64 a) ∧ w'.cell? ⟨g, 2, none⟩ = some (.int .i64 b) ∧ w'.cell? ⟨g, 3, none⟩ = some (.int .i64 c) ∧ w'.cell? ⟨g, 4, none⟩ = some (.int .i64 d) ∧ Below w.heap.size w w') (first | (exact keepP5 K.out (bel_drew (Below.refl _ _))) | (exact keepP5 K.out y4) | (exact keepP5 K.out y3) | (exact keepP5 K.out y2) | (exact keepP5 K.out y1) | go_keep) ((first
    | (go_at_call 74; (with_reducible refine (TD.out _).mono ?_); rintro e x4 ⟨rfl, hx4⟩; have y4 := y3.trans (hx4.mono y3.size))
    | (go_at_call 73; (first
      | ((with_reducible refine (TC.out _).mono ?_); rintro e x3 ⟨rfl, hx3⟩; have y3 := y2.trans (hx3.mono y2.size))
      | ((with_reducible refine (TB.out _).mono ?_); rintro e x2 ⟨rfl, hx2⟩; have y2 := y1.trans (hx2.mono y1.size))
      | ((with_reducible refine (TA.out _).mono ?_); rintro e x1 ⟨rfl, hx1⟩; have y1 := undrewP5 hx1)))))
  rename_i held
  have HB := Lib.hid held.2.2.2.2.2
  clear held
  go_wp2_with fail
  go_ret
  exact ⟨rfl, HB.out⟩

set_option maxRecDepth 100000 in
set_option maxHeartbeats 1000000 in
theorem specPjT_any (s : ByteArray) (a b c d : Int) (w : World) :
    Calls Tryd.prog 18 #[.agg #[.string s, .int .i64 a, .int .i64 b, .int .i64 c, .int .i64 d]] w fun e w' => e = .returned (.string (pjtxt s a b c d)) ∧ Below w.heap.size w w' := by
  unfold pjtxt
  have O := Lib.hid (fun (w : World) g h => l10One_at g 0 ⟨s, a, b, c, d⟩ w h)
  have hgd : StarV.good ⟨s, a, b, c, d⟩ = starB s a b c d := rfl
  rw [hgd] at O
  clear hgd
  have A0 : Hid (StarAt (w.alloc (.cells #[.string s, .int .i64 a, .int .i64 b, .int .i64 c, .int .i64 d] 41)) w.heap.size 0 ⟨s, a, b, c, d⟩) := Lib.hid ⟨by simp, by simp, by simp, by simp, by simp⟩
  cases h : starB s a b c d with
  | false =>
    rw [if_neg (by simp)]
    rw [h] at O
    clear h
    go_enter Tryd.func18, Tryd.ntmps18
    go_wp2_with fail
    refine (O.out _ _ A0.out).mono ?_
    rintro e w1 ⟨rfl, m, rfl⟩
    go_wp2_with fail
    go_ret
    exact ⟨rfl, bel_drewNS ((Below.refl _ _).alloc (Nat.le_refl _) _) _⟩
  | true =>
    rw [if_pos rfl]
    have T := Lib.hid (fun (w : World) g hat => l10Text_at g s a b c d h w hat)
    rw [h] at O
    clear h
    generalize s ++ ⟨#[32]⟩ ++ ⟨(angL a).toArray⟩ ++ ⟨#[32]⟩ ++ ⟨(angL b).toArray⟩ ++ ⟨#[32]⟩ ++ ⟨(angL c).toArray⟩ ++ ⟨#[32]⟩ ++ ⟨(Lib.itoa d).toArray⟩ = r at *
    go_enter Tryd.func18, Tryd.ntmps18
    go_wp2_with fail
    refine (O.out _ _ A0.out).mono ?_
    rintro e w1 ⟨rfl, m, rfl⟩
    have A1 : Hid (StarAt ((w.alloc (.cells #[.string s, .int .i64 a, .int .i64 b, .int .i64 c, .int .i64 d] 41)).drewN m) w.heap.size 0 ⟨s, a, b, c, d⟩) := Lib.hid ⟨A0.out.c0, A0.out.c1, A0.out.c2, A0.out.c3, A0.out.c4⟩
    have HB0 : Hid (Below w.heap.size w ((w.alloc (.cells #[.string s, .int .i64 a, .int .i64 b, .int .i64 c, .int .i64 d] 41)).drewN m)) := Lib.hid (bel_drewNS ((Below.refl _ _).alloc (Nat.le_refl _) _) _)
    go_wp2_with fail
    refine (T.out _ _ A1.out).mono ?_
    rintro e w1 ⟨rfl, hb⟩
    have HB := Lib.hid (HB0.out.trans (hb.mono HB0.out.size))
    clear hb
    go_wp2_with fail
    go_ret
    exact ⟨rfl, HB.out⟩

set_option maxRecDepth 100000 in
set_option maxHeartbeats 4000000 in
theorem implPjT_any (s : ByteArray) (a b c d : Int) (hmax : s.size ≤ maxLen) (w : World) (ht : TabOK w) :
    Calls Tryd.prog 19 #[.agg #[.string s, .int .i64 a, .int .i64 b, .int .i64 c, .int .i64 d]] w fun e w' => e = .returned (.string (pjtxt s a b c d)) ∧ Below w.heap.size w w' := by
  unfold pjtxt
  have V := Lib.hid (fun w => projValid_any s a b c d hmax w)
  have E := Lib.hid ht
  clear ht hmax
  cases h : starB s a b c d with
  | false =>
    rw [if_neg (by simp)]
    rw [h] at V
    clear h
    go_enter Tryd.func19, Tryd.ntmps19
    go_wp2_with fail
    refine (V.out _).mono ?_
    rintro e w1 ⟨rfl, hb⟩
    have hsw1 := hb.size
    try simp at hsw1
    obtain ⟨hcw1, hfw1⟩ := bcell hb
    have HBw1 : Hid (Below w.heap.size w w1) := by
      apply Lib.hid
      refine Below.trans ?_ (hb.mono ?_)
      · repeat (first | exact Below.refl _ _ | refine Below.setCell ?_ (by first | (simp; done) | omega | (simp; omega)) _ | refine Below.alloc ?_ (by first | (simp; done) | omega | (simp; omega)) _)
      · first | (simp; done) | omega | (simp; omega)
    have hzw1 : w.heap.size < w1.heap.size := by have := hb.size; (try simp at this); omega
    clear hb
    go_wp2_with fail
    go_ret
    refine ⟨rfl, ?_⟩
    repeat (first | exact Below.refl _ _ | exact HBw1.out | refine Below.setCell ?_ (by first | (simp; done) | omega | (simp; omega)) _ | refine Below.alloc ?_ (by first | (simp; done) | omega | (simp; omega)) _ | refine bel_drew ?_)
  | true =>
    rw [if_pos rfl]
    rw [h] at V
    obtain ⟨hs, ⟨a0, a1⟩, ⟨b0, b1⟩, ⟨e0, e1⟩, d0, d1⟩ := proj_5 s a b c d h
    have TA0 := fun w ht => implAngT_any a w ht
    have TB0 := fun w ht => implAngT_any b w ht
    have TC0 := fun w ht => implAngT_any c w ht
    have ea : angTV a = ⟨(angL a).toArray⟩ := by unfold angTV; rw [if_pos ((inR_1 _ _ _).2 ⟨by omega, by omega⟩)]
    have eb : angTV b = ⟨(angL b).toArray⟩ := by unfold angTV; rw [if_pos ((inR_1 _ _ _).2 ⟨by omega, by omega⟩)]
    have ec : angTV c = ⟨(angL c).toArray⟩ := by unfold angTV; rw [if_pos ((inR_1 _ _ _).2 ⟨by omega, by omega⟩)]
    simp only [ea] at TA0
    simp only [eb] at TB0
    simp only [ec] at TC0
    have TA := Lib.hid TA0
    have TB := Lib.hid TB0
    have TC := Lib.hid TC0
    have TD := Lib.hid (fun w ht => implDec_any d w (by omega) (by omega) ht)
    have la := angL_lenP a (by omega) (by omega)
    have lb := angL_lenP b (by omega) (by omega)
    have lc := angL_lenP c (by omega) (by omega)
    have ld := itoa_20 d (by omega) (by omega)
    rw [← size_of] at ld
    clear h a0 a1 b0 b1 e0 e1 d0 d1 TA0 TB0 TC0 ea eb ec
    generalize (⟨(angL a).toArray⟩ : ByteArray) = A at *
    generalize (⟨(angL b).toArray⟩ : ByteArray) = B0 at *
    generalize (⟨(angL c).toArray⟩ : ByteArray) = C at *
    generalize (⟨(Lib.itoa d).toArray⟩ : ByteArray) = D0 at *
    have J := Lib.hid (fun w T => join_5at s A B0 C D0 (by omega) (by omega) (by omega) (by omega) (by omega) w T)
    generalize s ++ ⟨#[32]⟩ ++ A ++ ⟨#[32]⟩ ++ B0 ++ ⟨#[32]⟩ ++ C ++ ⟨#[32]⟩ ++ D0 = r at *
    obtain ⟨W0, hW0⟩ : ∃ W0, W0 = w.alloc (.cells #[.string s, .int .i64 a, .int .i64 b, .int .i64 c, .int .i64 d] 41) := ⟨_, rfl⟩
    have K0 : Hid (W0.cell? ⟨w.heap.size, 0, none⟩ = some (.string s) ∧ W0.cell? ⟨w.heap.size, 1, none⟩ = some (.int .i64 a) ∧ W0.cell? ⟨w.heap.size, 2, none⟩ = some (.int .i64 b) ∧ W0.cell? ⟨w.heap.size, 3, none⟩ = some (.int .i64 c) ∧ W0.cell? ⟨w.heap.size, 4, none⟩ = some (.int .i64 d) ∧ Below w.heap.size w W0) := Lib.hid (by rw [hW0]; exact ⟨by simp, by simp, by simp, by simp, by simp, (Below.refl _ _).alloc (Nat.le_refl _) _⟩)
    have HW := Lib.hid hW0
    clear hW0
    go_enter Tryd.func19, Tryd.ntmps19
    obtain ⟨k0, k1, k2, k3, k4, k5⟩ := K0.out
    go_wp2_with fail
    rw [← HW.out]
    clear HW
    refine (V.out _).mono ?_
    rintro e w1 ⟨rfl, hb⟩
    have K1 := Lib.hid (keepP5 K0.out hb)
    have E1 := Lib.hid (E.out.below K1.out.2.2.2.2.2)
    clear hb k0 k1 k2 k3 k4 k5
    obtain ⟨k0, k1, k2, k3, k4, k5⟩ := K1.out
    go_wp2_with fail
    go_region_held3 (fun w' => w'.cell? ⟨w.heap.size, 0, none⟩ = some (.string s) ∧ w'.cell? ⟨w.heap.size, 1, none⟩ = some (.int .i64 a) ∧ w'.cell? ⟨w.heap.size, 2, none⟩ = some (.int .i64 b) ∧ w'.cell? ⟨w.heap.size, 3, none⟩ = some (.int .i64 c) ∧ w'.cell? ⟨w.heap.size, 4, none⟩ = some (.int .i64 d) ∧ Below w.heap.size w w') (first | (exact keepP5 K1.out (bel_drew (Below.refl _ _))) | (exact keepP5 K1.out y4) | (exact keepP5 K1.out y3) | (exact keepP5 K1.out y2) | (exact keepP5 K1.out y1) | (exact keepP5 K1.out (y4.alloc y4.size _)) | (exact keepP5 K1.out (bel_drew (y4.alloc y4.size _))) | go_keep) ((first
      | (go_at_call 44; (with_reducible refine (TD.out _ (E1.out.below y3)).mono ?_); rintro e x4 ⟨rfl, hx4⟩; have y4 := y3.trans (hx4.mono y3.size))
      | (go_at_call 43; (first
        | ((with_reducible refine (TC.out _ (E1.out.below y2)).mono ?_); rintro e x3 ⟨rfl, hx3⟩; have y3 := y2.trans (hx3.mono y2.size))
        | ((with_reducible refine (TB.out _ (E1.out.below y1)).mono ?_); rintro e x2 ⟨rfl, hx2⟩; have y2 := y1.trans (hx2.mono y1.size))
        | ((with_reducible refine (TA.out _ (E1.out.below (bel_drew (Below.refl _ _)))).mono ?_); rintro e x1 ⟨rfl, hx1⟩; have y1 := undrewP5 hx1)))))
    rename_i held
    have HB := Lib.hid held.2.2.2.2.2
    clear held
    go_wp2_with fail
    refine (J.out _ _).mono ?_
    rintro e x5 ⟨rfl, hx5⟩
    have HB2 := Lib.hid (HB.out.trans (hx5.mono HB.out.size))
    clear hx5
    go_wp2_with fail
    go_ret
    exact ⟨rfl, HB2.out⟩
end Go.Proofs.YtlklcpnnaolbeaaDoor
