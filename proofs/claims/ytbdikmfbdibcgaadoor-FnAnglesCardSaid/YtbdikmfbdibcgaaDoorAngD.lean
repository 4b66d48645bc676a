/-
  Drawn angles (package spec: l02Draw, l02Wide, DrawAngleBetween, DrawTurnTowards): numbers of 64 bits; the mathematics of FnAngles.
-/
import Derived.Test.YtbdikmfbdibcgaaDoorHelpB
import Derived.Test.YtbdikmfbdibcgaaDoorAngP
namespace Go.Proofs.YtbdikmfbdibcgaaDoor
open Go.RowKit
set_option linter.unusedVariables false

theorem btw_comm (a b : Int) : btw a b = btw b a := by
  unfold btw mn2
  split <;> split <;> omega
theorem sgn_abs (a b : Int) : btw a b = if sgn a b < 0 then -sgn a b else sgn a b := by
  have h := fwd_bd a b
  rw [btw_eq]
  unfold sgn mn2
  generalize fwd a b = d at *
  split <;> split <;> split <;> omega
theorem sgn_to (a b : Int) : nrm (nrm a + sgn a b) = nrm b := by
  have h1 := nrm_bd a
  have h2 := nrm_bd b
  unfold sgn fwd
  generalize nrm a = x at *
  generalize nrm b = y at *
  unfold nrm
  split <;> omega
theorem turn_facts (x y s : Int) (h : 0 ≤ s) : btw (turnI x y s) y ≤ btw x y ∧ (s < btw x y ∨ btw (turnI x y s) y = 0) ∧ (btw x y ≤ s ∨ btw (turnI x y s) y = btw x y - s) := by
  have h1 := nrm_bd x
  have h2 := nrm_bd y
  rw [btw_eq x y, btw_eq (turnI x y s) y]
  unfold turnI clampI sgn fwd
  rw [nrm_nrm]
  generalize nrm x = a at *
  generalize nrm y = b at *
  unfold nrm mn2
  by_cases c1 : 180000 < (b - a) % 360000
  · rw [if_pos c1]
    by_cases c2 : (b - a) % 360000 - 360000 < -s
    · rw [if_pos c2]
      split <;> split <;> omega
    · rw [if_neg c2]
      split <;> split <;> split <;> omega
  · rw [if_neg c1]
    by_cases c2 : (b - a) % 360000 < -s
    · omega
    · rw [if_neg c2]
      split <;> split <;> split <;> omega

def in64 (x : Int) : Prop := -9223372036854775808 ≤ x ∧ x ≤ 9223372036854775807
theorem gq_alloc {row : Option Nat} (w : World) (o : Obj) : w.grownBy (w.alloc o) row := by
  have hb : Below w.heap.size w (w.alloc o) := (Below.refl _ _).alloc (Nat.le_refl _) _
  exact ⟨hb.os, hb.tape, hb.output, hb.size, fun k hk _ => hb.block k hk⟩
def DrawPost (W w : World) (lo hi : Int) (g : Nat) (a : Option Addr) (n cap k t : Nat) (e : Ending) (w' : World) : Prop :=
  ∃ (v : Int) (k' : Nat), e = .returned (.int .i64 v) ∧ (lo ≤ v ∧ v ≤ hi) ∧ k' ≤ k + t ∧ SrcAt W w' g a n cap k'
set_option maxRecDepth 100000 in
set_option maxHeartbeats 2000000 in
theorem draw2_any {W w : World} {g n cap k : Nat} {a : Option Addr} {zs : List Int} (hin : BytesIn W (.slice a n cap) zs) (hn : zs.length ≤ 1048576) (h : SrcAt W w g a n cap k) (hk : k ≤ 60) :
    Calls Tryd.prog 51 #[.pointer (some ⟨g, 0, none⟩)] w (DrawPost W w 0 359999 g a n cap k 3) := by
  have IN := Lib.hid hin
  have H := Lib.hid h
  clear hin h
  go_enter Tryd.func51, Tryd.ntmps51
  go_wp2_with fail
  refine (pick1_any 4 (by omega) (by omega) IN.out hn H.out (by omega)).mono ?_
  rintro e w1 ⟨r, rfl, r0, r1, h1, _⟩
  have H1 := Lib.hid h1
  clear h1 H
  by_cases c0 : r = 0
  · subst c0
    go_wp2_with fail
    refine (pick1_any 24 (by omega) (by omega) IN.out hn H1.out (by omega)).mono ?_
    rintro e w2 ⟨q, rfl, q0, q1, h2, _⟩
    have H2 := Lib.hid h2
    clear h2 H1
    go_wp2_with fail
    go_ret
    exact ⟨_, _, rfl, ⟨by omega, by omega⟩, by omega, H2.out⟩
  by_cases c1 : r = 1
  · subst c1
    go_wp2_with fail
    refine (pick_any 360 (by omega) (by omega) IN.out hn H1.out (by omega)).mono ?_
    rintro e w2 ⟨q, rfl, q0, q1, h2, _⟩
    have H2 := Lib.hid h2
    clear h2 H1
    go_wp2_with fail
    go_ret
    exact ⟨_, _, rfl, ⟨by omega, by omega⟩, by omega, H2.out⟩
  go_wp2_with fail
  refine (pick_any 360000 (by omega) (by omega) IN.out hn H1.out (by omega)).mono ?_
  rintro e w2 ⟨q, rfl, q0, q1, h2, _⟩
  have H2 := Lib.hid h2
  clear h2 H1
  go_wp2_with fail
  go_ret
  exact ⟨_, _, rfl, ⟨by omega, by omega⟩, by omega, H2.out⟩

set_option maxRecDepth 100000 in
set_option maxHeartbeats 4000000 in
theorem wide2_any {W w : World} {g n cap k : Nat} {a : Option Addr} {zs : List Int} (hin : BytesIn W (.slice a n cap) zs) (hn : zs.length ≤ 1048576) (h : SrcAt W w g a n cap k) (hk : k ≤ 50) :
    Calls Tryd.prog 35 #[.pointer (some ⟨g, 0, none⟩)] w (DrawPost W w (-9223372036854775808) 9223372036854775807 g a n cap k 5) := by
  have IN := Lib.hid hin
  have H := Lib.hid h
  clear hin h
  go_enter Tryd.func35, Tryd.ntmps35
  go_wp2_with fail
  refine (draw2_any IN.out hn H.out (by omega)).mono ?_
  rintro e w1 ⟨x, k1, rfl, ⟨x0, x1⟩, hk1, h1⟩
  have H1 := Lib.hid h1
  clear h1 H
  go_wp2_with fail
  refine (pick1_any 6 (by omega) (by omega) IN.out hn H1.out (by omega)).mono ?_
  rintro e w2 ⟨r, rfl, r0, r1, h2, _⟩
  have H2 := Lib.hid h2
  clear h2 H1
  by_cases c0 : r = 0
  · subst c0
    go_wp2_with fail
    go_ret
    exact ⟨_, _, rfl, ⟨by omega, by omega⟩, by omega, H2.out⟩
  by_cases c1 : r = 1
  · subst c1
    go_wp2_with fail
    refine (pick1_any 9 (by omega) (by omega) IN.out hn H2.out (by omega)).mono ?_
    rintro e w3 ⟨q, rfl, q0, q1, h3, _⟩
    have H3 := Lib.hid h3
    clear h3 H2
    go_wp2_with fail
    go_ret
    exact ⟨_, _, rfl, ⟨by omega, by omega⟩, by omega, H3.out⟩
  by_cases c2 : r = 2
  · subst c2
    go_wp2_with fail
    have hb4 : Below w2.heap.size w2 (w2.alloc (Obj.cells #[.int .i64 9223372036854775807, .int .i64 (-9223372036854775808), .int .i64 0, .int .i64 180000] 2)) := (Below.refl _ _).alloc (Nat.le_refl _) _
    have HX : Hid (∀ j, (hj : j < [(9223372036854775807 : Int), -9223372036854775808, 0, 180000].length) → (w2.alloc (Obj.cells #[.int .i64 9223372036854775807, .int .i64 (-9223372036854775808), .int .i64 0, .int .i64 180000] 2)).cell? ⟨w2.heap.size, j, none⟩ = some (.int .i64 [(9223372036854775807 : Int), -9223372036854775808, 0, 180000][j])) := Lib.hid (by
      intro j hj
      rw [World.cell?_alloc_at _ _ _ _ rfl]
      match j, hj with
      | 0, _ => rfl
      | 1, _ => rfl
      | 2, _ => rfl
      | 3, _ => rfl)
    have hL : w2.heap.size < (w2.alloc (Obj.cells #[.int .i64 9223372036854775807, .int .i64 (-9223372036854775808), .int .i64 0, .int .i64 180000] 2)).heap.size := by simp
    have hLg : w2.heap.size ≠ g := by have := H2.out.lt; omega
    have H3 := Lib.hid (H2.out.keep hb4)
    have GA := Lib.hid (gq_alloc (row := some g) w2 (Obj.cells #[.int .i64 9223372036854775807, .int .i64 (-9223372036854775808), .int .i64 0, .int .i64 180000] 2))
    clear hb4
    generalize w2.alloc (Obj.cells #[.int .i64 9223372036854775807, .int .i64 (-9223372036854775808), .int .i64 0, .int .i64 180000] 2) = wd at *
    refine (among_any [(9223372036854775807 : Int), -9223372036854775808, 0, 180000] (by simp) (by simp) IN.out hn H3.out (by omega) hLg hL HX.out).mono ?_
    rintro e w5 ⟨r5, rfl, hm5, h5, g5⟩
    have d0 : -9223372036854775808 ≤ r5 ∧ r5 ≤ 9223372036854775807 := by
      simp only [List.mem_cons, List.not_mem_nil, or_false] at hm5
      omega
    have H7 := Lib.hid h5
    clear hm5 h5 g5 H3 HX GA
    go_wp2_with fail
    go_ret
    exact ⟨_, _, rfl, d0, by omega, H7.out⟩
  go_wp2_with fail
  go_ret
  exact ⟨_, _, rfl, ⟨by omega, by omega⟩, by omega, H2.out⟩

set_option maxHeartbeats 1000000 in
theorem drawAB_any {w : World} {v : Value} {zs : List Int} (hin : BytesIn w v zs) (hn : zs.length ≤ 1048576) :
    Calls Tryd.prog 18 #[v] w fun e w' => ∃ x y : Int, e = .returned (.tuple #[.int .i64 x, .int .i64 y]) ∧ in64 x ∧ in64 y ∧ Below w.heap.size w w' := by
  obtain ⟨a, cap, rfl⟩ := hin.len
  have IN := Lib.hid hin
  clear hin
  go_enter Tryd.func18, Tryd.ntmps18
  go_wp2_with fail
  refine (from_any a zs.length cap w).mono ?_
  rintro e w1 ⟨rfl, h1⟩
  have H1 := Lib.hid h1
  clear h1
  go_wp2_with fail
  refine (wide2_any IN.out hn H1.out (by omega)).mono ?_
  rintro e w2 ⟨x, k2, rfl, hx, hk2, h2⟩
  have H2 := Lib.hid h2
  clear h2 H1
  go_wp2_with fail
  refine (wide2_any IN.out hn H2.out (by omega)).mono ?_
  rintro e w3 ⟨y, k3, rfl, hy, hk3, h3⟩
  have H3 := Lib.hid h3
  clear h3 H2
  go_wp2_with fail
  go_ret2
  exact ⟨_, _, rfl, hx, hy, H3.out.bel⟩

set_option maxHeartbeats 1000000 in
theorem drawTT_any {w : World} {v : Value} {zs : List Int} (hin : BytesIn w v zs) (hn : zs.length ≤ 1048576) :
    Calls Tryd.prog 23 #[v] w fun e w' => ∃ x y s : Int, e = .returned (.tuple #[.int .i64 x, .int .i64 y, .int .i64 s]) ∧ in64 x ∧ in64 y ∧ in64 s ∧ Below w.heap.size w w' := by
  obtain ⟨a, cap, rfl⟩ := hin.len
  have IN := Lib.hid hin
  clear hin
  go_enter Tryd.func23, Tryd.ntmps23
  go_wp2_with fail
  refine (from_any a zs.length cap w).mono ?_
  rintro e w1 ⟨rfl, h1⟩
  have H1 := Lib.hid h1
  obtain ⟨g, hg⟩ : ∃ g, g = w.heap.size := ⟨_, rfl⟩
  clear h1
  go_wp2_with fail
  refine (wide2_any IN.out hn H1.out (by omega)).mono ?_
  rintro e w2 ⟨x, k2, rfl, hx, hk2, h2⟩
  have H2 := Lib.hid h2
  clear h2 H1
  go_wp2_with fail
  refine (wide2_any IN.out hn H2.out (by omega)).mono ?_
  rintro e w3 ⟨y, k3, rfl, hy, hk3, h3⟩
  have H3 := Lib.hid h3
  clear h3 H2
  go_wp2_with fail
  have hb4 : Below w3.heap.size w3 (w3.alloc (Obj.cells #[.int .i64 0, .int .i64 1, .int .i64 1000, .int .i64 90000, .int .i64 200000, .int .i64 (-1), .int .i64 9223372036854775807] 2)) := (Below.refl _ _).alloc (Nat.le_refl _) _
  have HX : Hid (∀ j, (hj : j < [(0 : Int), 1, 1000, 90000, 200000, -1, 9223372036854775807].length) → (w3.alloc (Obj.cells #[.int .i64 0, .int .i64 1, .int .i64 1000, .int .i64 90000, .int .i64 200000, .int .i64 (-1), .int .i64 9223372036854775807] 2)).cell? ⟨w3.heap.size, j, none⟩ = some (.int .i64 [(0 : Int), 1, 1000, 90000, 200000, -1, 9223372036854775807][j])) := Lib.hid (by
    intro j hj
    rw [World.cell?_alloc_at _ _ _ _ rfl]
    match j, hj with
    | 0, _ => rfl
    | 1, _ => rfl
    | 2, _ => rfl
    | 3, _ => rfl
    | 4, _ => rfl
    | 5, _ => rfl
    | 6, _ => rfl)
  have hL : w3.heap.size < (w3.alloc (Obj.cells #[.int .i64 0, .int .i64 1, .int .i64 1000, .int .i64 90000, .int .i64 200000, .int .i64 (-1), .int .i64 9223372036854775807] 2)).heap.size := by simp
  have hLg : w3.heap.size ≠ w.heap.size := by have := H3.out.lt; omega
  have H4 := Lib.hid (H3.out.keep hb4)
  have GA := Lib.hid (gq_alloc (row := some w.heap.size) w3 (Obj.cells #[.int .i64 0, .int .i64 1, .int .i64 1000, .int .i64 90000, .int .i64 200000, .int .i64 (-1), .int .i64 9223372036854775807] 2))
  clear hb4
  generalize w3.alloc (Obj.cells #[.int .i64 0, .int .i64 1, .int .i64 1000, .int .i64 90000, .int .i64 200000, .int .i64 (-1), .int .i64 9223372036854775807] 2) = wd at *
  refine (among_any [(0 : Int), 1, 1000, 90000, 200000, -1, 9223372036854775807] (by simp) (by simp) IN.out hn H4.out (by omega) hLg hL HX.out).mono ?_
  rintro e w5 ⟨r5, rfl, hm5, h5, g5⟩
  have d0 : -9223372036854775808 ≤ r5 ∧ r5 ≤ 9223372036854775807 := by
    simp only [List.mem_cons, List.not_mem_nil, or_false] at hm5
    omega
  have H7 := Lib.hid h5
  clear hm5 h5 g5 H4 HX GA
  go_wp2_with fail
  go_ret3
  exact ⟨_, _, _, rfl, hx, hy, d0, H7.out.bel⟩
end Go.Proofs.YtbdikmfbdibcgaaDoor
