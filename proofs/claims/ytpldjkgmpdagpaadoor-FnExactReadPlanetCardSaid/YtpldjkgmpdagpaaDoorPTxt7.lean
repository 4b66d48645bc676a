/-
  Planets as texts: the contracts of l07Text, PlanetText (package spec) and of PlanetText (package impl).
-/
import Derived.Test.YtpldjkgmpdagpaaDoorText
import Derived.Test.YtpldjkgmpdagpaaDoorNums
import Derived.Test.YtpldjkgmpdagpaaDoorPlan0
import Derived.Deep.RegionHeld3
namespace Go.Proofs.YtpldjkgmpdagpaaDoor
open Go.RowKit
set_option linter.unusedVariables false

theorem name_le (s : ByteArray) (h : nameB s.data.toList = true) : s.size ≤ 10 := by
  rcases (show 10 < s.size ∨ s.size ≤ 10 by omega) with c | c
  · rw [nameB_long s c] at h; cases h
  · exact c
theorem planet_3 (s : ByteArray) (a b c : Int) (h : planetB s a b c = true) : s.size ≤ 10 ∧ inR (-1000000000000) 1000000000000 [a, b, c] = true := by
  unfold planetB at h
  simp only [Bool.and_eq_true, inR_1] at h
  refine ⟨name_le s h.1, ?_⟩
  simp [inR]
  omega
theorem join_3 (a b c : Int) (h : inR (-1000000000000) 1000000000000 [a, b, c] = true) : (joinT [a, b, c]).length ≤ 63 := by
  have := joinTo_len [a, b, c] h 3 (by simp)
  unfold joinTo at this
  simpa using this
theorem listT_p (a b c : Int) (h : inR (-1000000000000) 1000000000000 [a, b, c] = true) : listT [a, b, c] = joinT [a, b, c] := by
  unfold listT
  rw [if_pos ((fits_iff _).2 ⟨h, by simp⟩), if_neg (by simp)]
/-- What PlanetText returns. -/
def ptxt (s : ByteArray) (a b c : Int) : ByteArray := if planetB s a b c = true then s ++ ⟨#[32]⟩ ++ ⟨(joinT [a, b, c]).toArray⟩ else ⟨#[]⟩
theorem cells_T (w : World) (T : TypeId) (x y z : Int) : ∀ j, (hj : j < [x, y, z].length) → (w.alloc (Obj.cells #[.int .i64 x, .int .i64 y, .int .i64 z] T)).cell? ⟨w.heap.size, j, none⟩ = some (.int .i64 ([x, y, z][j])) := by
  intro j hj
  match j, hj with
  | 0, _ => simp
  | 1, _ => simp
  | 2, _ => simp
theorem undrewTA {W u : World} {o : Obj} (h : Below (W.drew.alloc o).heap.size (W.drew.alloc o) u) : Below W.heap.size W u := ((bel_drew (Below.refl _ W)).alloc (Nat.le_refl _) o).trans (h.mono (by simp))
theorem undrewTD {W u : World} {o : Obj} (h : Below (W.alloc o).drew.heap.size (W.alloc o).drew u) : Below W.heap.size W u := ((Below.refl _ W).alloc (Nat.le_refl _) o).trans ((show Below (W.alloc o).heap.size (W.alloc o) u from ⟨h.os, h.tape, h.output, h.size, h.block⟩).mono (by simp))
theorem cells_Td (w : World) (T : TypeId) (x y z : Int) : ∀ j, (hj : j < [x, y, z].length) → (w.alloc (Obj.cells #[.int .i64 x, .int .i64 y, .int .i64 z] T)).drew.cell? ⟨w.heap.size, j, none⟩ = some (.int .i64 ([x, y, z][j])) := cells_T w T x y z
theorem keepPl {w W W' : World} {g : Nat} {v0 v1 v2 v3 : Value} (h : W.cell? ⟨g, 0, none⟩ = some v0 ∧ W.cell? ⟨g, 1, none⟩ = some v1 ∧ W.cell? ⟨g, 2, none⟩ = some v2 ∧ W.cell? ⟨g, 3, none⟩ = some v3 ∧ Below w.heap.size w W) (hb : Below W.heap.size W W') :
    W'.cell? ⟨g, 0, none⟩ = some v0 ∧ W'.cell? ⟨g, 1, none⟩ = some v1 ∧ W'.cell? ⟨g, 2, none⟩ = some v2 ∧ W'.cell? ⟨g, 3, none⟩ = some v3 ∧ Below w.heap.size w W' := by
  obtain ⟨h0, h1, h2, h3, hB⟩ := h
  have l0 := World.block_lt_of_cell? W ⟨g, 0, none⟩ h0
  obtain ⟨k, _⟩ := bcell hb
  exact ⟨(k _ _ l0).trans h0, (k _ _ l0).trans h1, (k _ _ l0).trans h2, (k _ _ l0).trans h3, hB.trans (hb.mono hB.size)⟩

set_option maxRecDepth 100000 in
set_option maxHeartbeats 2000000 in
theorem l07Text_at (g : Nat) (s : ByteArray) (a b c : Int) (h : planetB s a b c = true) (w : World) (c0 : w.cell? ⟨g, 0, none⟩ = some (.string s)) (c1 : w.cell? ⟨g, 1, none⟩ = some (.int .i64 a)) (c2 : w.cell? ⟨g, 2, none⟩ = some (.int .i64 b)) (c3 : w.cell? ⟨g, 3, none⟩ = some (.int .i64 c)) :
    Calls Tryd.prog 70 #[.pointer (some ⟨g, 0, none⟩)] w fun e w' => e = .returned (.string (s ++ ⟨#[32]⟩ ++ ⟨(joinT [a, b, c]).toArray⟩)) ∧ Below w.heap.size w w' := by
  obtain ⟨hs, hin⟩ := planet_3 s a b c h
  have hj := join_3 a b c hin
  have L : Hid (∀ (gg cap : Nat) (W : World), gg < W.heap.size → (∀ j, (hj : j < [a, b, c].length) → W.cell? ⟨gg, j, none⟩ = some (.int .i64 ([a, b, c][j]))) → Calls Tryd.prog 116 #[.slice (some ⟨gg, 0, none⟩) 3 cap] W fun e w' => e = .returned (.string ⟨(joinT [a, b, c]).toArray⟩) ∧ Below W.heap.size W w') := Lib.hid (fun gg cap W hg hc => by
    have := l01List_any gg cap [a, b, c] W hg (by simp) hin hc
    rw [if_neg (by simp)] at this
    exact this)
  clear hin h
  have hz : (⟨(joinT [a, b, c]).toArray⟩ : ByteArray).size ≤ 63 := by
    show (joinT [a, b, c]).toArray.size ≤ 63
    simpa using hj
  generalize (⟨(joinT [a, b, c]).toArray⟩ : ByteArray) = r at *
  have h1 : ¬ 9223372036854775807 < s.size + 1 := by omega
  have h2 : ¬ 9223372036854775807 < (s ++ ⟨#[32]⟩ : ByteArray).size + r.size := by
    rw [ByteArray.size_append]
    show ¬ 9223372036854775807 < s.size + 1 + r.size
    omega
  have h3 : ¬ 9223372036854775807 < s.size + 1 + r.size := by omega
  have K : Hid (w.cell? ⟨g, 0, none⟩ = some (.string s) ∧ w.cell? ⟨g, 1, none⟩ = some (.int .i64 a) ∧ w.cell? ⟨g, 2, none⟩ = some (.int .i64 b) ∧ w.cell? ⟨g, 3, none⟩ = some (.int .i64 c) ∧ Below w.heap.size w w) := Lib.hid ⟨c0, c1, c2, c3, Below.refl _ _⟩
  clear hj hs
  go_enter Tryd.func70, Tryd.ntmps70
  go_wp2_with fail
  go_region_held3 (fun w' => w'.cell? ⟨g, 0, none⟩ = some (.string s) ∧ w'.cell? ⟨g, 1, none⟩ = some (.int .i64 a) ∧ w'.cell? ⟨g, 2, none⟩ = some (.int .i64 b) ∧ w'.cell? ⟨g, 3, none⟩ = some (.int .i64 c) ∧ Below w.heap.size w w') (first | (exact keepPl K.out (bel_drew (Below.refl _ _))) | (exact keepPl K.out y1) | (exact keepPl K.out (bel_drew ((Below.refl _ _).alloc (Nat.le_refl _) _))) | (exact keepPl K.out ((bel_drew (Below.refl _ _)).alloc (Nat.le_refl _) _)) | go_keep) ((first
    | (go_at_call 116; (first | (refine (L.out _ _ _ (by simp) (cells_Td _ _ a b c)).mono ?_; rintro e x1 ⟨rfl, hx1⟩; have y1 := undrewTD hx1) | (refine (L.out _ _ _ (by simp) (cells_T _ _ a b c)).mono ?_; rintro e x1 ⟨rfl, hx1⟩; have y1 := undrewTA hx1)))))
  rename_i held
  have HB := Lib.hid held.2.2.2.2
  clear held
  go_wp2_with fail
  go_ret
  exact ⟨rfl, HB.out⟩

set_option maxRecDepth 100000 in
set_option maxHeartbeats 1000000 in
theorem specPText_any (s : ByteArray) (a b c : Int) (w : World) :
    Calls Tryd.prog 31 #[.agg #[.string s, .int .i64 a, .int .i64 b, .int .i64 c]] w fun e w' => e = .returned (.string (ptxt s a b c)) ∧ Below w.heap.size w w' := by
  unfold ptxt
  have O := Lib.hid (fun (w : World) g c0 c1 c2 c3 => l07One_at g 0 s a b c w c0 c1 c2 c3)
  cases h : planetB s a b c with
  | false =>
    rw [if_neg (by simp)]
    rw [h] at O
    clear h
    go_enter Tryd.func31, Tryd.ntmps31
    go_wp2_with fail
    refine (O.out _ _ (by simp) (by simp) (by simp) (by simp)).mono ?_
    rintro e w1 ⟨rfl, rfl⟩
    go_wp2_with fail
    go_ret
    refine ⟨rfl, ?_⟩
    repeat (first | exact Below.refl _ _ | refine Below.setCell ?_ (by first | (simp; done) | omega | (simp; omega)) _ | refine Below.alloc ?_ (by first | (simp; done) | omega | (simp; omega)) _ | refine bel_drew ?_)
  | true =>
    rw [if_pos rfl]
    have T := Lib.hid (fun (w : World) g c0 c1 c2 c3 => l07Text_at g s a b c h w c0 c1 c2 c3)
    rw [h] at O
    clear h
    generalize s ++ ⟨#[32]⟩ ++ ⟨(joinT [a, b, c]).toArray⟩ = r at *
    go_enter Tryd.func31, Tryd.ntmps31
    go_wp2_with fail
    refine (O.out _ _ (by simp) (by simp) (by simp) (by simp)).mono ?_
    rintro e w1 ⟨rfl, rfl⟩
    go_wp2_with fail
    refine (T.out _ _ (by simp) (by simp) (by simp) (by simp)).mono ?_
    rintro e w1 ⟨rfl, hb⟩
    have HB := Lib.hid (((Below.refl _ w).alloc (Nat.le_refl _) _).trans (hb.mono (by simp)))
    clear hb
    go_wp2_with fail
    go_ret
    exact ⟨rfl, HB.out⟩

set_option maxRecDepth 100000 in
set_option maxHeartbeats 2000000 in
theorem implPText_any (s : ByteArray) (a b c : Int) (hmax : s.size ≤ maxLen) (w : World) (ht : TabOK w) :
    Calls Tryd.prog 33 #[.agg #[.string s, .int .i64 a, .int .i64 b, .int .i64 c]] w fun e w' => e = .returned (.string (ptxt s a b c)) ∧ Below w.heap.size w w' := by
  unfold ptxt
  have V := Lib.hid (fun w => validPlanet_any s a b c hmax w)
  have E := Lib.hid ht
  clear ht hmax
  cases h : planetB s a b c with
  | false =>
    rw [if_neg (by simp)]
    rw [h] at V
    clear h
    go_enter Tryd.func33, Tryd.ntmps33
    go_wp2_with fail
    refine (V.out _).mono ?_
    rintro e w1 ⟨rfl, hb⟩
    have hsw1 := hb.size
    try simp at hsw1
    obtain ⟨hcw1, hfw1⟩ := bcell hb
    have HBw1 : Hid (Below w.heap.size w w1) := by
      apply Lib.hid
      refine Below.trans ?_ (hb.mono ?_)
      · repeat (first | exact Below.refl _ _ | refine Below.setCell ?_ (by first | (simp; done) | omega | (simp; omega)) _ | refine Below.alloc ?_ (by first | (simp; done) | omega | (simp; omega)) _)
      · first | (simp; done) | omega | (simp; omega)
    have hzw1 : w.heap.size < w1.heap.size := by have := hb.size; (try simp at this); omega
    clear hb
    go_wp2_with fail
    go_ret
    refine ⟨rfl, ?_⟩
    repeat (first | exact Below.refl _ _ | exact HBw1.out | refine Below.setCell ?_ (by first | (simp; done) | omega | (simp; omega)) _ | refine Below.alloc ?_ (by first | (simp; done) | omega | (simp; omega)) _ | refine bel_drew ?_)
  | true =>
    rw [if_pos rfl]
    rw [h] at V
    obtain ⟨hs, hin⟩ := planet_3 s a b c h
    have hj := join_3 a b c hin
    have hz : (⟨(joinT [a, b, c]).toArray⟩ : ByteArray).size ≤ 63 := by
      show (joinT [a, b, c]).toArray.size ≤ 63
      simpa using hj
    have L : Hid (∀ (gg cap : Nat) (W : World), TabOK W → gg < W.heap.size → (∀ j, (hj : j < [a, b, c].length) → W.cell? ⟨gg, j, none⟩ = some (.int .i64 ([a, b, c][j]))) → Calls Tryd.prog 71 #[.string s, .slice (some ⟨gg, 0, none⟩) 3 cap] W fun e w' => e = .returned (.string (s ++ ⟨#[32]⟩ ++ ⟨(joinT [a, b, c]).toArray⟩)) ∧ Below W.heap.size W w') := Lib.hid (fun gg cap W ht hg hc =>
      namedT_any s hs [a, b, c] ⟨(joinT [a, b, c]).toArray⟩ (by omega) (by rw [listT_p a b c hin]) (by simp) gg cap W ht hg hc)
    clear hin h hj hz hs
    generalize s ++ ⟨#[32]⟩ ++ ⟨(joinT [a, b, c]).toArray⟩ = r at *
    obtain ⟨W0, hW0⟩ : ∃ W0, W0 = w.alloc (.cells #[.string s, .int .i64 a, .int .i64 b, .int .i64 c] 49) := ⟨_, rfl⟩
    have K0 : Hid (W0.cell? ⟨w.heap.size, 0, none⟩ = some (.string s) ∧ W0.cell? ⟨w.heap.size, 1, none⟩ = some (.int .i64 a) ∧ W0.cell? ⟨w.heap.size, 2, none⟩ = some (.int .i64 b) ∧ W0.cell? ⟨w.heap.size, 3, none⟩ = some (.int .i64 c) ∧ Below w.heap.size w W0) := Lib.hid (by rw [hW0]; exact ⟨by simp, by simp, by simp, by simp, (Below.refl _ _).alloc (Nat.le_refl _) _⟩)
    have HW := Lib.hid hW0
    clear hW0
    go_enter Tryd.func33, Tryd.ntmps33
    obtain ⟨k0, k1, k2, k3, k4⟩ := K0.out
    go_wp2_with fail
    rw [← HW.out]
    clear HW
    refine (V.out _).mono ?_
    rintro e w1 ⟨rfl, hb⟩
    have K1 := Lib.hid (keepPl K0.out hb)
    have E1 := Lib.hid (E.out.below K1.out.2.2.2.2)
    clear hb k0 k1 k2 k3 k4
    obtain ⟨k0, k1, k2, k3, k4⟩ := K1.out
    go_wp2_with fail
    refine (L.out _ _ _ (E1.out.below ((Below.refl _ _).alloc (Nat.le_refl _) _)) (by simp) (cells_T _ _ a b c)).mono ?_
    rintro e x1 ⟨rfl, hx1⟩
    have HB := Lib.hid ((K1.out.2.2.2.2.alloc K1.out.2.2.2.2.size _).trans (hx1.mono (K1.out.2.2.2.2.alloc K1.out.2.2.2.2.size _).size))
    clear hx1 k0 k1 k2 k3 k4
    go_wp2_with fail
    go_ret
    exact ⟨rfl, HB.out⟩
end Go.Proofs.YtpldjkgmpdagpaaDoor
