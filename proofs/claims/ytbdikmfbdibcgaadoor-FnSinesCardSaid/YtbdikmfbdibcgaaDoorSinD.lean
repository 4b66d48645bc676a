/-
  A drawn sine (package spec: DrawArcSine).
-/
import Derived.Test.YtbdikmfbdibcgaaDoorHelpB
namespace Go.Proofs.YtbdikmfbdibcgaaDoor
open Go.RowKit
set_option linter.unusedVariables false

set_option maxRecDepth 100000 in
set_option maxHeartbeats 4000000 in
theorem drawV_any {W w : World} {g n cap k : Nat} {a : Option Addr} {zs : List Int} (hin : BytesIn W (.slice a n cap) zs) (hn : zs.length ≤ 1048576) (h : SrcAt W w g a n cap k) (hk : k ≤ 50) :
    Calls Tryd.prog 31 #[.pointer (some ⟨g, 0, none⟩)] w fun e w' => ∃ v : Int, e = .returned (.int .i64 v) ∧ (-1000001 ≤ v ∧ v ≤ 1000001) ∧ Below W.heap.size W w' := by
  have IN := Lib.hid hin
  have hWs := h.bel.size
  have H := Lib.hid h
  clear hin h
  go_enter Tryd.func31, Tryd.ntmps31
  go_wp2_with fail
  refine (one_any 6 (by omega) (by omega) IN.out hn H.out (by omega)).mono ?_
  rintro e w1 ⟨yes, rfl, h1, g1⟩
  have H1 := Lib.hid h1
  clear h1 g1 H
  cases yes with
  | false =>
    go_wp2_with fail
    refine (pick_any 2000001 (by omega) (by omega) IN.out hn H1.out (by omega)).mono ?_
    rintro e w2 ⟨r, rfl, r0, r1, h2, g2⟩
    have H2 := Lib.hid h2
    clear h2 g2 H1
    go_wp2_with fail
    go_ret
    exact ⟨_, rfl, ⟨by omega, by omega⟩, H2.out.bel⟩
  | true =>
    go_wp2_with fail
    have hb4 : Below w1.heap.size w1 (w1.alloc (Obj.cells #[.int .i64 (-1000000), .int .i64 1000000, .int .i64 (-1000001), .int .i64 1000001, .int .i64 0, .int .i64 500000] 2)) := (Below.refl _ _).alloc (Nat.le_refl _) _
    have HX : Hid (∀ j, (hj : j < [(-1000000 : Int), 1000000, -1000001, 1000001, 0, 500000].length) → (w1.alloc (Obj.cells #[.int .i64 (-1000000), .int .i64 1000000, .int .i64 (-1000001), .int .i64 1000001, .int .i64 0, .int .i64 500000] 2)).cell? ⟨w1.heap.size, j, none⟩ = some (.int .i64 [(-1000000 : Int), 1000000, -1000001, 1000001, 0, 500000][j])) := Lib.hid (by
      intro j hj
      rw [World.cell?_alloc_at _ _ _ _ rfl]
      match j, hj with
      | 0, _ => rfl
      | 1, _ => rfl
      | 2, _ => rfl
      | 3, _ => rfl
      | 4, _ => rfl
      | 5, _ => rfl)
    have hL : w1.heap.size < (w1.alloc (Obj.cells #[.int .i64 (-1000000), .int .i64 1000000, .int .i64 (-1000001), .int .i64 1000001, .int .i64 0, .int .i64 500000] 2)).heap.size := by simp
    have hLg : w1.heap.size ≠ g := by have := H1.out.lt; omega
    have H6 := Lib.hid (H1.out.keep hb4)
    clear hb4 H1
    generalize w1.alloc (Obj.cells #[.int .i64 (-1000000), .int .i64 1000000, .int .i64 (-1000001), .int .i64 1000001, .int .i64 0, .int .i64 500000] 2) = wd at *
    refine (among_any [(-1000000 : Int), 1000000, -1000001, 1000001, 0, 500000] (by simp) (by simp) IN.out hn H6.out (by omega) hLg hL HX.out).mono ?_
    rintro e w5 ⟨r5, rfl, hm5, h5, g5⟩
    have d0 : -1000001 ≤ r5 ∧ r5 ≤ 1000001 := by
      simp only [List.mem_cons, List.not_mem_nil, or_false] at hm5
      omega
    have H7 := Lib.hid h5
    clear hm5 h5 g5 H6 HX
    go_wp2_with fail
    go_ret
    exact ⟨_, rfl, d0, H7.out.bel⟩

set_option maxHeartbeats 1000000 in
theorem drawAS_any {w : World} {v : Value} {zs : List Int} (hin : BytesIn w v zs) (hn : zs.length ≤ 1048576) :
    Calls Tryd.prog 12 #[v] w fun e w' => ∃ v : Int, e = .returned (.int .i64 v) ∧ (-1000001 ≤ v ∧ v ≤ 1000001) ∧ Below w.heap.size w w' := by
  obtain ⟨a, cap, rfl⟩ := hin.len
  have IN := Lib.hid hin
  clear hin
  go_enter Tryd.func12, Tryd.ntmps12
  go_wp2_with fail
  refine (from_any a zs.length cap w).mono ?_
  rintro e w1 ⟨rfl, h1⟩
  have H1 := Lib.hid h1
  clear h1
  go_wp2_with fail
  refine (drawV_any IN.out hn H1.out (by omega)).mono ?_
  rintro e w2 ⟨v, rfl, hv, hb2⟩
  have HB2 := Lib.hid hb2
  clear hb2 H1 IN
  go_wp2_with fail
  go_ret
  exact ⟨_, rfl, hv, HB2.out⟩
end Go.Proofs.YtbdikmfbdibcgaaDoor
