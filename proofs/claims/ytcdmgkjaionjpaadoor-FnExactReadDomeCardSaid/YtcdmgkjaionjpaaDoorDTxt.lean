/-
  Domes as texts: the contracts of l09Text, DomeText (package spec) and of namedNumbersText, DomeText (package impl).
-/
import Derived.Test.YtcdmgkjaionjpaaDoorText
import Derived.Test.YtcdmgkjaionjpaaDoorDome0
import Derived.Deep.RegionHeld3
namespace Go.Proofs.YtcdmgkjaionjpaaDoor
open Go.RowKit
set_option linter.unusedVariables false

theorem name_leD (s : ByteArray) (h : nameB s.data.toList = true) : s.size ≤ 10 := by
  rcases (show 10 < s.size ∨ s.size ≤ 10 by omega) with c | c
  · rw [nameB_long s c] at h; cases h
  · exact c
theorem dome_2 (s : ByteArray) (a b : Int) (h : domeB s a b = true) : s.size ≤ 10 ∧ inR (-1000000000000) 1000000000000 [a, b] = true := by
  unfold domeB at h
  simp only [Bool.and_eq_true, inR_1] at h
  refine ⟨name_leD s h.1, ?_⟩
  simp [inR]
  omega
theorem join_2 (a b : Int) (h : inR (-1000000000000) 1000000000000 [a, b] = true) : (joinT [a, b]).length ≤ 42 := by
  have := joinTo_len [a, b] h 2 (by simp)
  unfold joinTo at this
  simpa using this
theorem listT_d (a b : Int) (h : inR (-1000000000000) 1000000000000 [a, b] = true) : listT [a, b] = joinT [a, b] := by
  unfold listT
  rw [if_pos ((fits_iff _).2 ⟨h, by simp⟩), if_neg (by simp)]
/-- What DomeText returns. -/
def dtxt (s : ByteArray) (a b : Int) : ByteArray := if domeB s a b = true then s ++ ⟨#[32]⟩ ++ ⟨(joinT [a, b]).toArray⟩ else ⟨#[]⟩
theorem cells_D (w : World) (T : TypeId) (x y : Int) : ∀ j, (hj : j < [x, y].length) → (w.alloc (Obj.cells #[.int .i64 x, .int .i64 y] T)).cell? ⟨w.heap.size, j, none⟩ = some (.int .i64 ([x, y][j])) := by
  intro j hj
  match j, hj with
  | 0, _ => simp
  | 1, _ => simp
theorem undrewDA {W u : World} {o : Obj} (h : Below (W.drew.alloc o).heap.size (W.drew.alloc o) u) : Below W.heap.size W u := ((bel_drew (Below.refl _ W)).alloc (Nat.le_refl _) o).trans (h.mono (by simp))
theorem undrewDD {W u : World} {o : Obj} (h : Below (W.alloc o).drew.heap.size (W.alloc o).drew u) : Below W.heap.size W u := ((Below.refl _ W).alloc (Nat.le_refl _) o).trans ((show Below (W.alloc o).heap.size (W.alloc o) u from ⟨h.os, h.tape, h.output, h.size, h.block⟩).mono (by simp))
theorem cells_Dd (w : World) (T : TypeId) (x y : Int) : ∀ j, (hj : j < [x, y].length) → (w.alloc (Obj.cells #[.int .i64 x, .int .i64 y] T)).drew.cell? ⟨w.heap.size, j, none⟩ = some (.int .i64 ([x, y][j])) := cells_D w T x y
theorem keepDo {w W W' : World} {g : Nat} {v0 v1 v2 : Value} (h : W.cell? ⟨g, 0, none⟩ = some v0 ∧ W.cell? ⟨g, 1, none⟩ = some v1 ∧ W.cell? ⟨g, 2, none⟩ = some v2 ∧ Below w.heap.size w W) (hb : Below W.heap.size W W') :
    W'.cell? ⟨g, 0, none⟩ = some v0 ∧ W'.cell? ⟨g, 1, none⟩ = some v1 ∧ W'.cell? ⟨g, 2, none⟩ = some v2 ∧ Below w.heap.size w W' := by
  obtain ⟨h0, h1, h2, hB⟩ := h
  have l0 := World.block_lt_of_cell? W ⟨g, 0, none⟩ h0
  obtain ⟨k, _⟩ := bcell hb
  exact ⟨(k _ _ l0).trans h0, (k _ _ l0).trans h1, (k _ _ l0).trans h2, hB.trans (hb.mono hB.size)⟩

set_option maxRecDepth 100000 in
set_option maxHeartbeats 2000000 in
theorem l09Text_at (g : Nat) (s : ByteArray) (a b : Int) (h : domeB s a b = true) (w : World) (c0 : w.cell? ⟨g, 0, none⟩ = some (.string s)) (c1 : w.cell? ⟨g, 1, none⟩ = some (.int .i64 a)) (c2 : w.cell? ⟨g, 2, none⟩ = some (.int .i64 b)) :
    Calls Tryd.prog 62 #[.pointer (some ⟨g, 0, none⟩)] w fun e w' => e = .returned (.string (s ++ ⟨#[32]⟩ ++ ⟨(joinT [a, b]).toArray⟩)) ∧ Below w.heap.size w w' := by
  obtain ⟨hs, hin⟩ := dome_2 s a b h
  have hj := join_2 a b hin
  have L : Hid (∀ (gg cap : Nat) (W : World), gg < W.heap.size → (∀ j, (hj : j < [a, b].length) → W.cell? ⟨gg, j, none⟩ = some (.int .i64 ([a, b][j]))) → Calls Tryd.prog 95 #[.slice (some ⟨gg, 0, none⟩) 2 cap] W fun e w' => e = .returned (.string ⟨(joinT [a, b]).toArray⟩) ∧ Below W.heap.size W w') := Lib.hid (fun gg cap W hg hc => by
    have := l01List_any gg cap [a, b] W hg (by simp) hin hc
    rw [if_neg (by simp)] at this
    exact this)
  clear hin h
  have hz : (⟨(joinT [a, b]).toArray⟩ : ByteArray).size ≤ 42 := by
    show (joinT [a, b]).toArray.size ≤ 42
    simpa using hj
  generalize (⟨(joinT [a, b]).toArray⟩ : ByteArray) = r at *
  have h1 : ¬ 9223372036854775807 < s.size + 1 := by omega
  have h2 : ¬ 9223372036854775807 < (s ++ ⟨#[32]⟩ : ByteArray).size + r.size := by
    rw [ByteArray.size_append]
    show ¬ 9223372036854775807 < s.size + 1 + r.size
    omega
  have h3 : ¬ 9223372036854775807 < s.size + 1 + r.size := by omega
  have K : Hid (w.cell? ⟨g, 0, none⟩ = some (.string s) ∧ w.cell? ⟨g, 1, none⟩ = some (.int .i64 a) ∧ w.cell? ⟨g, 2, none⟩ = some (.int .i64 b) ∧ Below w.heap.size w w) := Lib.hid ⟨c0, c1, c2, Below.refl _ _⟩
  clear hj hs
  go_enter Tryd.func62, Tryd.ntmps62
  go_wp2_with fail
  go_region_held3 (fun w' => w'.cell? ⟨g, 0, none⟩ = some (.string s) ∧ w'.cell? ⟨g, 1, none⟩ = some (.int .i64 a) ∧ w'.cell? ⟨g, 2, none⟩ = some (.int .i64 b) ∧ Below w.heap.size w w') (first | (exact keepDo K.out (bel_drew (Below.refl _ _))) | (exact keepDo K.out y1) | (exact keepDo K.out (bel_drew ((Below.refl _ _).alloc (Nat.le_refl _) _))) | (exact keepDo K.out ((bel_drew (Below.refl _ _)).alloc (Nat.le_refl _) _)) | go_keep) ((first
    | (go_at_call 95; (first | (refine (L.out _ _ _ (by simp) (cells_Dd _ _ a b)).mono ?_; rintro e x1 ⟨rfl, hx1⟩; have y1 := undrewDD hx1) | (refine (L.out _ _ _ (by simp) (cells_D _ _ a b)).mono ?_; rintro e x1 ⟨rfl, hx1⟩; have y1 := undrewDA hx1)))))
  rename_i held
  have HB := Lib.hid held.2.2.2
  clear held
  go_wp2_with fail
  go_ret
  exact ⟨rfl, HB.out⟩

set_option maxRecDepth 100000 in
set_option maxHeartbeats 1000000 in
theorem specDText_any (s : ByteArray) (a b : Int) (w : World) :
    Calls Tryd.prog 31 #[.agg #[.string s, .int .i64 a, .int .i64 b]] w fun e w' => e = .returned (.string (dtxt s a b)) ∧ Below w.heap.size w w' := by
  unfold dtxt
  have O := Lib.hid (fun (w : World) g c0 c1 c2 => l09Ok_at g 0 s a b w c0 c1 c2)
  cases h : domeB s a b with
  | false =>
    rw [if_neg (by simp)]
    rw [h] at O
    clear h
    go_enter Tryd.func31, Tryd.ntmps31
    go_wp2_with fail
    refine (O.out _ _ (by simp) (by simp) (by simp)).mono ?_
    rintro e w1 ⟨rfl, rfl⟩
    go_wp2_with fail
    go_ret
    refine ⟨rfl, ?_⟩
    repeat (first | exact Below.refl _ _ | refine Below.setCell ?_ (by first | (simp; done) | omega | (simp; omega)) _ | refine Below.alloc ?_ (by first | (simp; done) | omega | (simp; omega)) _ | refine bel_drew ?_)
  | true =>
    rw [if_pos rfl]
    have T := Lib.hid (fun (w : World) g c0 c1 c2 => l09Text_at g s a b h w c0 c1 c2)
    rw [h] at O
    clear h
    generalize s ++ ⟨#[32]⟩ ++ ⟨(joinT [a, b]).toArray⟩ = r at *
    go_enter Tryd.func31, Tryd.ntmps31
    go_wp2_with fail
    refine (O.out _ _ (by simp) (by simp) (by simp)).mono ?_
    rintro e w1 ⟨rfl, rfl⟩
    go_wp2_with fail
    refine (T.out _ _ (by simp) (by simp) (by simp)).mono ?_
    rintro e w1 ⟨rfl, hb⟩
    have HB := Lib.hid (((Below.refl _ w).alloc (Nat.le_refl _) _).trans (hb.mono (by simp)))
    clear hb
    go_wp2_with fail
    go_ret
    exact ⟨rfl, HB.out⟩

set_option maxRecDepth 100000 in
set_option maxHeartbeats 1000000 in
theorem namedT_any (s : ByteArray) (hs : s.size ≤ 10) (zs : List Int) (r : ByteArray) (hr : r.size ≤ 1000) (hrl : listT zs = r.data.toList) (hzl : zs.length ≤ 64) (g cap : Nat) (w : World) (ht : TabOK w) (hg : g < w.heap.size) (hc : ∀ j, (hj : j < zs.length) → w.cell? ⟨g, j, none⟩ = some (.int .i64 zs[j])) :
    Calls Tryd.prog 64 #[.string s, .slice (some ⟨g, 0, none⟩) zs.length cap] w fun e w' => e = .returned (.string (s ++ ⟨#[32]⟩ ++ r)) ∧ Below w.heap.size w w' := by
  have L := Lib.hid (implText_any g cap zs w ht hg (by omega) hc)
  rw [hrl] at L
  have er : (⟨r.data.toList.toArray⟩ : ByteArray) = r := by simp
  rw [er] at L
  clear hrl er hc ht
  have h1 : ¬ 9223372036854775807 < s.size + 1 := by omega
  have h2 : ¬ 9223372036854775807 < (s ++ ⟨#[32]⟩ : ByteArray).size + r.size := by
    rw [ByteArray.size_append]
    show ¬ 9223372036854775807 < s.size + 1 + r.size
    omega
  have h3 : ¬ 9223372036854775807 < s.size + 1 + r.size := by omega
  go_enter Tryd.func64, Tryd.ntmps64
  go_wp2_with fail
  refine (L.out).mono ?_
  rintro e w1 ⟨rfl, hb⟩
  have HB := Lib.hid hb
  clear hb
  go_wp2_with fail
  go_ret
  exact ⟨rfl, HB.out⟩

set_option maxRecDepth 100000 in
set_option maxHeartbeats 2000000 in
theorem implDText_any (s : ByteArray) (a b : Int) (hmax : s.size ≤ maxLen) (w : World) (ht : TabOK w) :
    Calls Tryd.prog 32 #[.agg #[.string s, .int .i64 a, .int .i64 b]] w fun e w' => e = .returned (.string (dtxt s a b)) ∧ Below w.heap.size w w' := by
  unfold dtxt
  have V := Lib.hid (fun w => validDome_any s a b hmax w)
  have E := Lib.hid ht
  clear ht hmax
  cases h : domeB s a b with
  | false =>
    rw [if_neg (by simp)]
    rw [h] at V
    clear h
    go_enter Tryd.func32, Tryd.ntmps32
    go_wp2_with fail
    refine (V.out _).mono ?_
    rintro e w1 ⟨rfl, hb⟩
    have hsw1 := hb.size
    try simp at hsw1
    obtain ⟨hcw1, hfw1⟩ := bcell hb
    have HBw1 : Hid (Below w.heap.size w w1) := by
      apply Lib.hid
      refine Below.trans ?_ (hb.mono ?_)
      · repeat (first | exact Below.refl _ _ | refine Below.setCell ?_ (by first | (simp; done) | omega | (simp; omega)) _ | refine Below.alloc ?_ (by first | (simp; done) | omega | (simp; omega)) _)
      · first | (simp; done) | omega | (simp; omega)
    have hzw1 : w.heap.size < w1.heap.size := by have := hb.size; (try simp at this); omega
    clear hb
    go_wp2_with fail
    go_ret
    refine ⟨rfl, ?_⟩
    repeat (first | exact Below.refl _ _ | exact HBw1.out | refine Below.setCell ?_ (by first | (simp; done) | omega | (simp; omega)) _ | refine Below.alloc ?_ (by first | (simp; done) | omega | (simp; omega)) _ | refine bel_drew ?_)
  | true =>
    rw [if_pos rfl]
    rw [h] at V
    obtain ⟨hs, hin⟩ := dome_2 s a b h
    have hj := join_2 a b hin
    have hz : (⟨(joinT [a, b]).toArray⟩ : ByteArray).size ≤ 42 := by
      show (joinT [a, b]).toArray.size ≤ 42
      simpa using hj
    have L : Hid (∀ (gg cap : Nat) (W : World), TabOK W → gg < W.heap.size → (∀ j, (hj : j < [a, b].length) → W.cell? ⟨gg, j, none⟩ = some (.int .i64 ([a, b][j]))) → Calls Tryd.prog 64 #[.string s, .slice (some ⟨gg, 0, none⟩) 2 cap] W fun e w' => e = .returned (.string (s ++ ⟨#[32]⟩ ++ ⟨(joinT [a, b]).toArray⟩)) ∧ Below W.heap.size W w') := Lib.hid (fun gg cap W ht hg hc =>
      namedT_any s hs [a, b] ⟨(joinT [a, b]).toArray⟩ (by omega) (by rw [listT_d a b hin]) (by simp) gg cap W ht hg hc)
    clear hin h hj hz hs
    generalize s ++ ⟨#[32]⟩ ++ ⟨(joinT [a, b]).toArray⟩ = r at *
    obtain ⟨W0, hW0⟩ : ∃ W0, W0 = w.alloc (.cells #[.string s, .int .i64 a, .int .i64 b] 37) := ⟨_, rfl⟩
    have K0 : Hid (W0.cell? ⟨w.heap.size, 0, none⟩ = some (.string s) ∧ W0.cell? ⟨w.heap.size, 1, none⟩ = some (.int .i64 a) ∧ W0.cell? ⟨w.heap.size, 2, none⟩ = some (.int .i64 b) ∧ Below w.heap.size w W0) := Lib.hid (by rw [hW0]; exact ⟨by simp, by simp, by simp, (Below.refl _ _).alloc (Nat.le_refl _) _⟩)
    have HW := Lib.hid hW0
    clear hW0
    go_enter Tryd.func32, Tryd.ntmps32
    obtain ⟨k0, k1, k2, k4⟩ := K0.out
    go_wp2_with fail
    rw [← HW.out]
    clear HW
    refine (V.out _).mono ?_
    rintro e w1 ⟨rfl, hb⟩
    have K1 := Lib.hid (keepDo K0.out hb)
    have E1 := Lib.hid (E.out.below K1.out.2.2.2)
    clear hb k0 k1 k2 k4
    obtain ⟨k0, k1, k2, k4⟩ := K1.out
    go_wp2_with fail
    refine (L.out _ _ _ (E1.out.below ((Below.refl _ _).alloc (Nat.le_refl _) _)) (by simp) (cells_D _ _ a b)).mono ?_
    rintro e x1 ⟨rfl, hx1⟩
    have HB := Lib.hid ((K1.out.2.2.2.alloc K1.out.2.2.2.size _).trans (hx1.mono (K1.out.2.2.2.alloc K1.out.2.2.2.size _).size))
    clear hx1 k0 k1 k2 k4
    go_wp2_with fail
    go_ret
    exact ⟨rfl, HB.out⟩
end Go.Proofs.YtcdmgkjaionjpaaDoor
