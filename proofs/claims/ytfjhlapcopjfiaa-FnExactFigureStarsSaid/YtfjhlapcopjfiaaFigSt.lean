/-
  FigureStars (packages impl and spec).
-/
import Derived.Test.YtfjhlapcopjfiaaFigV
import Derived.Test.YtfjhlapcopjfiaaEndsI
namespace Go.Proofs.Ytfjhlapcopjfiaa
open Go.RowKit
set_option linter.unusedVariables false

theorem figV_okS {zs : List StarV} {s : ByteArray} {ls : List (List Int)} (h : figV zs s ls = true) : okL zs = true ∧ ls.length ≤ 16 ∧ ∀ j, (hj : j < ls.length) → ∃ a c : Nat, ls[j] = [(a : Int), (c : Int)] ∧ a < zs.length ∧ c < zs.length ∧ a < c := by
  unfold figV figB linesB at h
  simp only [Bool.and_eq_true, decide_eq_true_eq] at h
  obtain ⟨h1, _, h2, h3⟩ := h
  refine ⟨h1, h3, fun j hj => ?_⟩
  have hl := okF_line _ ls _ j h2 hj
  rw [getL_at ls j hj] at hl
  obtain ⟨a, c, hac⟩ := lineB_two hl
  rw [hac] at hl ⊢
  have e : lineB (zs.length : Int) [a, c] = (inR 0 ((zs.length : Int) - 1) [a, c] && decide (a < c)) := rfl
  rw [e, inR_2] at hl
  simp only [Bool.and_eq_true, inR_1, decide_eq_true_eq] at hl
  exact ⟨a.toNat, c.toNat, by rw [Int.toNat_of_nonneg (by omega), Int.toNat_of_nonneg (by omega)], by omega, by omega, by omega⟩

theorem endsL_lenS {ls : List (List Int)} (h : ∀ j, (hj : j < ls.length) → ∃ a c : Int, ls[j] = [a, c]) (hl : ls.length ≤ 16) : (endsL ls).length ≤ 32 := by
  have h1 := endsUp_len ls h ls.length (Nat.le_refl _)
  unfold endsUp at h1
  rw [List.take_length] at h1
  unfold endsL
  omega
/-- What FigureStars answers. -/
def figStV (zs : List StarV) (s : ByteArray) (ls : List (List Int)) : List Int × Int := if figV zs s ls = true then (endsL ls, 0) else ([], 1)
theorem figStV_len (zs : List StarV) (s : ByteArray) (ls : List (List Int)) : (figStV zs s ls).1.length ≤ 1048576 := by
  unfold figStV
  split
  · rename_i h
    obtain ⟨_, h16, hln⟩ := figV_okS h
    have := endsL_lenS (fun j hj => by obtain ⟨a, c, h, _⟩ := hln j hj; exact ⟨_, _, h⟩) h16
    show (endsL ls).length ≤ _
    omega
  · exact Nat.zero_le _
def StPost (r : List Int × Int) (w : World) (e : Ending) (w' : World) : Prop :=
  ∃ v, e = .returned (.tuple #[v, .int .i64 r.2]) ∧ w'.ownsRow w.heap.size 2 1 v r.1.length (r.1.map (Value.int .i64)) ∧ Below w.heap.size w w'

set_option maxRecDepth 100000 in
set_option maxHeartbeats 4000000 in
theorem implFigSt_any (s : ByteArray) (hs : s.size ≤ maxLen) (g cap : Nat) (ls : List (List Int)) (bs : Nat → Nat) (g' cap' : Nat) (zs : List StarV) (w : World) (hb : ls.length ≤ 1048577) (hls : ∀ j, (h : j < ls.length) → ls[j].length ≤ 1048577) (hr : LRow w g ls bs)
    (hb' : zs.length ≤ 1048577) (h1 : Row w g' zs) (hok : ∀ j, (h : j < zs.length) → zs[j].ok) :
    Calls Try.prog 41 #[.agg #[.string s, .slice (some ⟨g, 0, none⟩) ls.length cap], .slice (some ⟨g', 0, none⟩) zs.length cap'] w (StPost (figStV zs s ls) w) := by
  have V := Lib.hid (fun (W : World) (hB : Below w.heap.size w W) => validFigure_any s hs g cap ls bs g' cap' zs W hb hls (hr.below hB) hb' (h1.below hB) hok)
  have HL := Lib.hid hr
  unfold figStV
  clear hr hls h1 hok
  cases hv : figV zs s ls with
  | false =>
    rw [if_neg (by simp)]
    rw [hv] at V
    clear hv
    go_enter Try.func41, Try.ntmps41
    go_wp2_with fail
    refine (V.out _ (by repeat (first | exact Below.refl _ _ | refine Below.setCell ?_ (by first | (simp; done) | omega | (simp; omega)) _ | refine Below.alloc ?_ (by first | (simp; done) | omega | (simp; omega)) _ | refine bel_drew ?_))).mono ?_
    rintro e w1 ⟨rfl, hb1⟩
    have HB1 : Hid (Below w.heap.size w w1) := Lib.hid (by
      refine Below.trans ?_ (hb1.mono ?_)
      · repeat (first | exact Below.refl _ _ | refine Below.setCell ?_ (by first | (simp; done) | omega | (simp; omega)) _ | refine Below.alloc ?_ (by first | (simp; done) | omega | (simp; omega)) _ | refine bel_drew ?_)
      · simp)
    clear hb1
    go_wp2_with fail
    go_ret2
    exact ⟨_, rfl, World.ownsRow_nil _ _ _ _, HB1.out⟩
  | true =>
    rw [if_pos rfl]
    rw [hv] at V
    obtain ⟨ho, hl16, hln⟩ := figV_okS hv
    have hl2 : ∀ j, (hj : j < ls.length) → ∃ a c : Int, ls[j] = [a, c] := fun j hj => by
      obtain ⟨a, c, h, _⟩ := hln j hj
      exact ⟨_, _, h⟩
    have EN := Lib.hid (fun (W : World) (hB : Below w.heap.size w W) => ends_any s g cap ls bs W hl16 hl2 (HL.out.below hB))
    clear hv hln hl2 ho
    generalize endsL ls = q at *
    go_enter Try.func41, Try.ntmps41
    go_wp2_with fail
    refine (V.out _ (by repeat (first | exact Below.refl _ _ | refine Below.setCell ?_ (by first | (simp; done) | omega | (simp; omega)) _ | refine Below.alloc ?_ (by first | (simp; done) | omega | (simp; omega)) _ | refine bel_drew ?_))).mono ?_
    rintro e w1 ⟨rfl, hb1⟩
    have HB1 : Hid (Below w.heap.size w w1) := Lib.hid (by
      refine Below.trans ?_ (hb1.mono ?_)
      · repeat (first | exact Below.refl _ _ | refine Below.setCell ?_ (by first | (simp; done) | omega | (simp; omega)) _ | refine Below.alloc ?_ (by first | (simp; done) | omega | (simp; omega)) _ | refine bel_drew ?_)
      · simp)
    have q0 : w1.cell? ⟨w.heap.size, 0, none⟩ = some (.string s) := (hb1.cell (p := ⟨w.heap.size, 0, none⟩) (by simp)).trans (by simp)
    have q1 : w1.cell? ⟨w.heap.size, 1, none⟩ = some (.slice (some ⟨g, 0, none⟩) ls.length cap) := (hb1.cell (p := ⟨w.heap.size, 1, none⟩) (by simp)).trans (by simp)
    clear hb1 V
    go_wp2_with fail
    refine (EN.out _ HB1.out).mono ?_
    rintro e w2 ⟨v2, rfl, hown2, hb2⟩
    have HO2 := Lib.hid (Go.Joins.ownsRow_le hown2 HB1.out.size)
    have HB2 := Lib.hid (HB1.out.trans (hb2.mono HB1.out.size))
    clear hb2 hown2 q0 q1 EN
    go_wp2_with fail
    go_ret2
    exact ⟨_, rfl, HO2.out, HB2.out⟩

set_option maxRecDepth 100000 in
set_option maxHeartbeats 4000000 in
theorem specFigSt_any (s : ByteArray) (g cap : Nat) (ls : List (List Int)) (bs : Nat → Nat) (g' cap' : Nat) (zs : List StarV) (w : World) (hb : ls.length ≤ 1048577) (hls : ∀ j, (h : j < ls.length) → ls[j].length ≤ 1048577) (hfit : ∀ j, (h : j < ls.length) → ∀ x ∈ ls[j], fits x) (hr : LRow w g ls bs)
    (hb' : zs.length ≤ 1048577) (h1 : Row w g' zs) :
    Calls Try.prog 40 #[.agg #[.string s, .slice (some ⟨g, 0, none⟩) ls.length cap], .slice (some ⟨g', 0, none⟩) zs.length cap'] w (StPost (figStV zs s ls) w) := by
  have V := Lib.hid (fun (W : World) (hB : Below w.heap.size w W) p hp0 hp1 => l08Ok_any s p g cap ls bs g' cap' zs W hp0 hp1 hb hls hfit (hr.below hB) hb' (h1.below hB))
  have HL := Lib.hid hr
  unfold figStV
  clear hr hls h1 hfit
  cases hv : figV zs s ls with
  | false =>
    rw [if_neg (by simp)]
    rw [hv] at V
    clear hv
    go_enter Try.func40, Try.ntmps40
    go_wp2_with fail
    refine (V.out _ (by repeat (first | exact Below.refl _ _ | refine Below.setCell ?_ (by first | (simp; done) | omega | (simp; omega)) _ | refine Below.alloc ?_ (by first | (simp; done) | omega | (simp; omega)) _ | refine bel_drew ?_)) w.heap.size (by simp) (by simp)).mono ?_
    rintro e w1 ⟨rfl, hb1⟩
    have HB1 : Hid (Below w.heap.size w w1) := Lib.hid (by
      refine Below.trans ?_ (hb1.mono ?_)
      · repeat (first | exact Below.refl _ _ | refine Below.setCell ?_ (by first | (simp; done) | omega | (simp; omega)) _ | refine Below.alloc ?_ (by first | (simp; done) | omega | (simp; omega)) _ | refine bel_drew ?_)
      · simp)
    clear hb1
    go_wp2_with fail
    go_ret2
    exact ⟨_, rfl, World.ownsRow_nil _ _ _ _, HB1.out⟩
  | true =>
    rw [if_pos rfl]
    rw [hv] at V
    obtain ⟨ho, hl16, hln⟩ := figV_okS hv
    have hl2 : ∀ j, (hj : j < ls.length) → ∃ a c : Int, ls[j] = [a, c] := fun j hj => by
      obtain ⟨a, c, h, _⟩ := hln j hj
      exact ⟨_, _, h⟩
    have EN := Lib.hid (fun (W : World) (hB : Below w.heap.size w W) p hp1 => l08Stars_any p g cap ls bs W hl16 hl2 hp1 (HL.out.below hB))
    clear hv hln hl2 ho
    generalize endsL ls = q at *
    go_enter Try.func40, Try.ntmps40
    go_wp2_with fail
    refine (V.out _ (by repeat (first | exact Below.refl _ _ | refine Below.setCell ?_ (by first | (simp; done) | omega | (simp; omega)) _ | refine Below.alloc ?_ (by first | (simp; done) | omega | (simp; omega)) _ | refine bel_drew ?_)) w.heap.size (by simp) (by simp)).mono ?_
    rintro e w1 ⟨rfl, hb1⟩
    have HB1 : Hid (Below w.heap.size w w1) := Lib.hid (by
      refine Below.trans ?_ (hb1.mono ?_)
      · repeat (first | exact Below.refl _ _ | refine Below.setCell ?_ (by first | (simp; done) | omega | (simp; omega)) _ | refine Below.alloc ?_ (by first | (simp; done) | omega | (simp; omega)) _ | refine bel_drew ?_)
      · simp)
    have q1 : w1.cell? ⟨w.heap.size, 1, none⟩ = some (.slice (some ⟨g, 0, none⟩) ls.length cap) := (hb1.cell (p := ⟨w.heap.size, 1, none⟩) (by simp)).trans (by simp)
    clear hb1 V
    go_wp2_with fail
    refine (EN.out _ HB1.out w.heap.size q1).mono ?_
    rintro e w2 ⟨v2, rfl, hown2, hb2⟩
    have HO2 := Lib.hid (Go.Joins.ownsRow_le hown2 HB1.out.size)
    have HB2 := Lib.hid (HB1.out.trans (hb2.mono HB1.out.size))
    clear hb2 hown2 q1 EN
    go_wp2_with fail
    go_ret2
    exact ⟨_, rfl, HO2.out, HB2.out⟩
end Go.Proofs.Ytfjhlapcopjfiaa
