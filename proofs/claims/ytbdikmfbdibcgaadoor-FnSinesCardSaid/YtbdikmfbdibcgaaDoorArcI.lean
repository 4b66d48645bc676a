/-
  Arcs of package impl: the contracts of ArcSine and ArcCosine.
-/
import Derived.Test.YtbdikmfbdibcgaaDoorArcC
namespace Go.Proofs.YtbdikmfbdibcgaaDoor
open Go.RowKit
set_option linter.unusedVariables false

set_option maxHeartbeats 1000000 in
theorem implASin_any (v : Int) (w : World) (hs : SinesOK w) :
    Calls Tryd.prog 13 #[.int .i64 v] w fun e w' => e = .returned (if inR (-1000000) 1000000 [v] = true then .tuple #[.int .i64 ((-90000 : Int) + (asinN v : Nat)), .int .i64 0] else .tuple #[.int .i64 0, .int .i64 2]) ∧ Below w.heap.size w w' := by
  cases hin : inR (-1000000) 1000000 [v] with
  | false =>
    rw [if_neg (by simp)]
    have HI := Lib.hid hin
    clear hin hs
    go_enter Tryd.func13, Tryd.ntmps13
    go_wp2_with fail
    refine (within1 _ _ v _ _ _ (by simp)).mono ?_
    rintro e w' ⟨rfl, rfl⟩
    rw [HI.out]
    go_wp2_with fail
    go_ret2
    exact ⟨rfl, ((Below.refl _ _).alloc (Nat.le_refl _) _).alloc (by simp) _⟩
  | true =>
    rw [if_pos rfl]
    have HI := Lib.hid hin
    clear hin
    obtain ⟨W0, hW0⟩ : ∃ W0, W0 = (w.alloc (.cells #[.int .i64 v] 2)).alloc (.cells #[.int .i64 v] 2) := ⟨_, rfl⟩
    have hB0 : Below w.heap.size w W0 := by rw [hW0]; exact ((Below.refl _ w).alloc (Nat.le_refl _) _).alloc (by simp) _
    have hsize : W0.heap.size = w.heap.size + 1 + 1 := by rw [hW0]; simp
    have c0 : W0.cell? ⟨w.heap.size, 0, none⟩ = some (.int .i64 v) := by rw [hW0]; simp
    have hs0 := hs.below hB0
    have hF := firstAngle_any (-90000 : Int) ((-90000 : Int) + (180000 : Nat)) 180000 33 #[.pointer (some ⟨w.heap.size, 0, none⟩)] (pSin v) W0 (by omega) (by omega) rfl (by omega)
      (enters_of Tryd.func33 (by kernel_rfl) rfl)
      (fun W i hb hi => arcSine_in w.heap.size v ((-90000 : Int) + (i : Int)) W (by omega) (by omega) (hs0.below hb) ((hb.cell (p := ⟨w.heap.size, 0, none⟩) (by rw [hsize]; simp; omega)).trans c0))
      (pSin_mono v)
    have hle : cnt 180000 (pSin v) ≤ 180000 := cnt_le _ _
    have eN : asinN v = cnt 180000 (pSin v) := rfl
    rw [eN]
    rw [show ((-90000 : Int) + ((180000 : Nat) : Int)) = 90000 by omega] at hF
    have HF := Lib.hid hF
    have HB := Lib.hid hB0
    have HW := Lib.hid hW0
    clear hF hB0 hW0 c0 hs0 hs hsize eN
    generalize cnt 180000 (pSin v) = c at *
    go_enter Tryd.func13, Tryd.ntmps13
    go_wp2_with fail
    refine (within1 _ _ v _ _ _ (by simp)).mono ?_
    rintro e w' ⟨rfl, rfl⟩
    rw [HI.out]
    go_wp2_with fail
    rw [← HW.out]
    refine HF.out.mono ?_
    rintro e w' ⟨rfl, hb⟩
    have HB2 := Lib.hid hb
    clear hb
    go_wp2_with fail
    go_ret2
    exact ⟨rfl, HB.out.trans (HB2.out.mono HB.out.size)⟩

set_option maxHeartbeats 1000000 in
theorem implACos_any (v : Int) (w : World) (hs : SinesOK w) :
    Calls Tryd.prog 14 #[.int .i64 v] w fun e w' => e = .returned (if inR (-1000000) 1000000 [v] = true then .tuple #[.int .i64 (acosN v : Nat), .int .i64 0] else .tuple #[.int .i64 0, .int .i64 2]) ∧ Below w.heap.size w w' := by
  cases hin : inR (-1000000) 1000000 [v] with
  | false =>
    rw [if_neg (by simp)]
    have HI := Lib.hid hin
    clear hin hs
    go_enter Tryd.func14, Tryd.ntmps14
    go_wp2_with fail
    refine (within1 _ _ v _ _ _ (by simp)).mono ?_
    rintro e w' ⟨rfl, rfl⟩
    rw [HI.out]
    go_wp2_with fail
    go_ret2
    exact ⟨rfl, ((Below.refl _ _).alloc (Nat.le_refl _) _).alloc (by simp) _⟩
  | true =>
    rw [if_pos rfl]
    have HI := Lib.hid hin
    clear hin
    obtain ⟨W0, hW0⟩ : ∃ W0, W0 = (w.alloc (.cells #[.int .i64 v] 2)).alloc (.cells #[.int .i64 v] 2) := ⟨_, rfl⟩
    have hB0 : Below w.heap.size w W0 := by rw [hW0]; exact ((Below.refl _ w).alloc (Nat.le_refl _) _).alloc (by simp) _
    have hsize : W0.heap.size = w.heap.size + 1 + 1 := by rw [hW0]; simp
    have c0 : W0.cell? ⟨w.heap.size, 0, none⟩ = some (.int .i64 v) := by rw [hW0]; simp
    have hs0 := hs.below hB0
    have hF := firstAngle_any (0 : Int) ((0 : Int) + (180000 : Nat)) 180000 34 #[.pointer (some ⟨w.heap.size, 0, none⟩)] (pCos v) W0 (by omega) (by omega) rfl (by omega)
      (enters_of Tryd.func34 (by kernel_rfl) rfl)
      (fun W i hb hi => arcCosine_in w.heap.size v ((0 : Int) + (i : Int)) W (by omega) (by omega) (hs0.below hb) ((hb.cell (p := ⟨w.heap.size, 0, none⟩) (by rw [hsize]; simp; omega)).trans c0))
      (pCos_mono v)
    have hle : cnt 180000 (pCos v) ≤ 180000 := cnt_le _ _
    have eN : acosN v = cnt 180000 (pCos v) := rfl
    rw [eN]
    rw [show ((0 : Int) + ((180000 : Nat) : Int)) = 180000 by omega, Int.zero_add] at hF
    have HF := Lib.hid hF
    have HB := Lib.hid hB0
    have HW := Lib.hid hW0
    clear hF hB0 hW0 c0 hs0 hs hsize eN
    generalize cnt 180000 (pCos v) = c at *
    go_enter Tryd.func14, Tryd.ntmps14
    go_wp2_with fail
    refine (within1 _ _ v _ _ _ (by simp)).mono ?_
    rintro e w' ⟨rfl, rfl⟩
    rw [HI.out]
    go_wp2_with fail
    rw [← HW.out]
    refine HF.out.mono ?_
    rintro e w' ⟨rfl, hb⟩
    have HB2 := Lib.hid hb
    clear hb
    go_wp2_with fail
    go_ret2
    exact ⟨rfl, HB.out.trans (HB2.out.mono HB.out.size)⟩
end Go.Proofs.YtbdikmfbdibcgaaDoor
