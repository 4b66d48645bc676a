/-
  NearestStar (package impl).
-/
import Derived.Test.YtoellkbmhpekdaaGreatDoorNear4
namespace Go.Proofs.YtoellkbmhpekdaaGreatDoor
open Go.RowKit
set_option linter.unusedVariables false

def nearV (zs : List StarV) (p q : Int) : Value :=
  if okL zs = true then if dirB p q = true then if zs.length = 0 then .tuple #[.int .i64 0, .int .i64 0, .int .i64 3] else .tuple #[.int .i64 ((bestF (distF zs p q) (zs.length - 1)).1 : Int), .int .i64 (bestF (distF zs p q) (zs.length - 1)).2, .int .i64 0]
    else .tuple #[.int .i64 0, .int .i64 0, .int .i64 2] else .tuple #[.int .i64 0, .int .i64 0, .int .i64 1]
theorem nearV_form (zs : List StarV) (p q : Int) : ∃ a b c : Int, nearV zs p q = .tuple #[.int .i64 a, .int .i64 b, .int .i64 c] := by
  unfold nearV
  split
  · split
    · split
      · exact ⟨_, _, _, rfl⟩
      · exact ⟨_, _, _, rfl⟩
    · exact ⟨_, _, _, rfl⟩
  · exact ⟨_, _, _, rfl⟩

set_option maxRecDepth 100000 in
set_option maxHeartbeats 2000000 in
theorem implNear_any (g cap : Nat) (zs : List StarV) (p q : Int) (fp : fits p) (w : World) (hb : zs.length ≤ 1048577) (h1 : Row w g zs) (hok : ∀ j, (h : j < zs.length) → zs[j].ok) (hs : SinesOK w) :
    Calls Tryz.prog 14 #[.slice (some ⟨g, 0, none⟩) zs.length cap, .int .i64 p, .int .i64 q] w fun e w' => e = .returned (nearV zs p q) ∧ Below w.heap.size w w' := by
  have V := Lib.hid (fun w h1 => validStars_any g cap zs w hb h1 hok)
  have VD := Lib.hid (fun w => dirValid_any p q w)
  have H1 := Lib.hid h1
  have E := Lib.hid hs
  have DI := Lib.hid (fun w hs h1 => distances_any g cap zs p q fp w hs hb h1 hok)
  have BS := Lib.hid (bestF_spec (distF zs p q) (zs.length - 1))
  have MI := Lib.hid (fun gg cc n w h hb => min_any gg cc n (distF zs p q) w h hb)
  have IX := Lib.hid (fun gg cc k0 v w h hk hv hne => index_any gg cc zs.length k0 v (distF zs p q) w h (by omega) hk hv hne)
  unfold sightD at DI
  clear h1 hs hok
  unfold nearV
  cases ho : okL zs with
  | false =>
    rw [if_neg (by simp)]
    rw [ho] at V
    clear ho
    go_enter Tryz.func14, Tryz.ntmps14
    go_wp2_with fail
    refine (V.out _ (H1.out.below ((Below.refl _ w).alloc (Nat.le_refl _) _))).mono ?_
    rintro e w1 ⟨rfl, hb1⟩
    have HB1 := Lib.hid (((Below.refl _ w).alloc (Nat.le_refl _) (.cells #[.int .i64 p, .int .i64 q] 71)).trans (hb1.mono (by simp)))
    clear hb1
    go_wp2_with fail
    go_returns
    exact ⟨rfl, HB1.out⟩
  | true =>
    rw [if_pos rfl]
    rw [ho] at V
    clear ho
    cases hd : dirB p q with
    | false =>
      rw [if_neg (by simp)]
      rw [hd] at VD
      clear hd
      go_enter Tryz.func14, Tryz.ntmps14
      go_wp2_with fail
      refine (V.out _ (H1.out.below ((Below.refl _ w).alloc (Nat.le_refl _) _))).mono ?_
      rintro e w1 ⟨rfl, hb1⟩
      have HB1 := Lib.hid (((Below.refl _ w).alloc (Nat.le_refl _) (.cells #[.int .i64 p, .int .i64 q] 71)).trans (hb1.mono (by simp)))
      have q0 : w1.cell? ⟨w.heap.size, 0, none⟩ = some (.int .i64 p) := (hb1.cell (p := ⟨w.heap.size, 0, none⟩) (by simp)).trans (by simp)
      have q1 : w1.cell? ⟨w.heap.size, 1, none⟩ = some (.int .i64 q) := (hb1.cell (p := ⟨w.heap.size, 1, none⟩) (by simp)).trans (by simp)
      clear hb1
      go_wp2_with fail
      refine (VD.out _).mono ?_
      rintro e w2 ⟨rfl, hb2⟩
      have HB2 := Lib.hid (HB1.out.trans (hb2.mono HB1.out.size))
      clear hb2
      go_wp2_with fail
      go_returns
      exact ⟨rfl, HB2.out⟩
    | true =>
      rw [if_pos rfl]
      rw [hd] at VD
      clear hd
      by_cases h0 : zs.length = 0
      · rw [if_pos h0]
        have HZ := Lib.hid h0
        have hz : (zs.length : Int) = 0 := by omega
        clear h0
        go_enter Tryz.func14, Tryz.ntmps14
        go_wp2_with fail
        refine (V.out _ (H1.out.below ((Below.refl _ w).alloc (Nat.le_refl _) _))).mono ?_
        rintro e w1 ⟨rfl, hb1⟩
        have HB1 := Lib.hid (((Below.refl _ w).alloc (Nat.le_refl _) (.cells #[.int .i64 p, .int .i64 q] 71)).trans (hb1.mono (by simp)))
        have q0 : w1.cell? ⟨w.heap.size, 0, none⟩ = some (.int .i64 p) := (hb1.cell (p := ⟨w.heap.size, 0, none⟩) (by simp)).trans (by simp)
        have q1 : w1.cell? ⟨w.heap.size, 1, none⟩ = some (.int .i64 q) := (hb1.cell (p := ⟨w.heap.size, 1, none⟩) (by simp)).trans (by simp)
        clear hb1
        go_wp2_with fail
        refine (VD.out _).mono ?_
        rintro e w2 ⟨rfl, hb2⟩
        have HB2 := Lib.hid (HB1.out.trans (hb2.mono HB1.out.size))
        clear hb2
        have hz' := HZ.out
        go_wp2_with fail
        go_returns
        exact ⟨rfl, HB2.out⟩
      · rw [if_neg h0]
        have hz : ¬ (zs.length : Int) = 0 := by omega
        have HBZ : Hid (((zs.length : Int) == 0) = false) := Lib.hid (by simpa using h0)
        obtain ⟨m, hm⟩ : ∃ m, zs.length = m + 1 := ⟨zs.length - 1, by omega⟩
        have HM := Lib.hid hm
        rw [show zs.length - 1 = m by omega] at BS ⊢
        have hbm : m ≤ 1048577 := by omega
        clear hm h0
        obtain ⟨k0, hk0⟩ : ∃ k0, k0 = (bestF (distF zs p q) m).1 := ⟨_, rfl⟩
        rw [← hk0] at BS ⊢
        have MI2 := Lib.hid (fun gg cc w h => MI.out gg cc m w h hbm)
        obtain ⟨v, hv⟩ : ∃ v, v = (bestF (distF zs p q) m).2 := ⟨_, rfl⟩
        rw [← hv] at BS MI2 ⊢
        have IX2 := Lib.hid (fun gg cc w h => index_any gg cc (m + 1) k0 v (distF zs p q) w h (by omega) (by have := BS.out.1; omega) BS.out.2.1 (fun k hk => by have := BS.out.2.2.1 k hk; omega))
        clear hk0 hv MI IX
        go_enter Tryz.func14, Tryz.ntmps14
        go_wp2_with fail
        refine (V.out _ (H1.out.below ((Below.refl _ w).alloc (Nat.le_refl _) _))).mono ?_
        rintro e w1 ⟨rfl, hb1⟩
        have HB1 := Lib.hid (((Below.refl _ w).alloc (Nat.le_refl _) (.cells #[.int .i64 p, .int .i64 q] 71)).trans (hb1.mono (by simp)))
        have q0 : w1.cell? ⟨w.heap.size, 0, none⟩ = some (.int .i64 p) := (hb1.cell (p := ⟨w.heap.size, 0, none⟩) (by simp)).trans (by simp)
        have q1 : w1.cell? ⟨w.heap.size, 1, none⟩ = some (.int .i64 q) := (hb1.cell (p := ⟨w.heap.size, 1, none⟩) (by simp)).trans (by simp)
        have l1 : w.heap.size < w1.heap.size := World.block_lt_of_cell? w1 ⟨_, 0, none⟩ q0
        clear hb1
        go_wp2_with fail
        refine (VD.out _).mono ?_
        rintro e w2 ⟨rfl, hb2⟩
        have HB2 := Lib.hid (HB1.out.trans (hb2.mono HB1.out.size))
        have q2 := (hb2.cell (p := ⟨w.heap.size, 0, none⟩) l1).trans q0
        have q3 := (hb2.cell (p := ⟨w.heap.size, 1, none⟩) l1).trans q1
        clear hb2 q0 q1
        go_wp2_with fail
        rw [HBZ.out]
        go_wp2_with fail
        refine (DI.out _ (E.out.below HB2.out) (H1.out.below HB2.out)).mono ?_
        rintro e w3 ⟨rfl, hI, hb3⟩
        have HB3 := Lib.hid (HB2.out.trans (hb3.mono HB2.out.size))
        have HI := Lib.hid hI
        clear hb3 hI q2 q3
        go_wp2_with fail
        rw [HM.out]
        refine (MI2.out _ _ _ (by have := HI.out; rw [HM.out] at this; exact this)).mono ?_
        rintro e w4 ⟨rfl, rfl⟩
        go_wp2_with fail
        refine (IX2.out _ _ _ (by have := HI.out; rw [HM.out] at this; exact this)).mono ?_
        rintro e w5 ⟨rfl, rfl⟩
        go_wp2_with fail
        go_returns
        exact ⟨rfl, HB3.out⟩
end Go.Proofs.YtoellkbmhpekdaaGreatDoor
