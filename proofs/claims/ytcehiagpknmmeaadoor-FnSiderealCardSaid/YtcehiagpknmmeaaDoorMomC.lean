/-
  Times between moments: the contracts of MilliBetween (both packages).
-/
import Derived.Test.YtcehiagpknmmeaaDoorMomB
import Derived.Deep.RegionWith
import Derived.IntWalk
namespace Go.Proofs.YtcehiagpknmmeaaDoor
open Go.RowKit
set_option linter.unusedVariables false

theorem below3 {w W0 w1 w2 w3 : World} (h0 : Below w.heap.size w W0) (h1 : Below W0.drew.heap.size W0.drew w1) (h2 : Below w1.heap.size w1 w2) (h3 : Below w2.heap.size w2 w3) : Below W0.heap.size W0 w3 ∧ Below w.heap.size w w3 := by
  have a : Below W0.heap.size W0 w1 := Below.trans (b := W0.drew) ⟨rfl, rfl, rfl, Nat.le_refl _, fun _ _ => rfl⟩ h1
  have b : Below W0.heap.size W0 w2 := a.trans (h2.mono a.size)
  have c : Below W0.heap.size W0 w3 := b.trans (h3.mono b.size)
  exact ⟨c, h0.trans (c.mono h0.size)⟩
def betweenV (a b c d : Int) : Value := if okM a b = true ∧ okM c d = true then .tuple #[.int .i64 (c * 86400000 + d - (a * 86400000 + b)), .int .i64 0] else .tuple #[.int .i64 0, .int .i64 1]
theorem betweenV_form (a b c d : Int) : ∃ x y : Int, betweenV a b c d = .tuple #[.int .i64 x, .int .i64 y] := by
  unfold betweenV
  split
  · exact ⟨_, _, rfl⟩
  · exact ⟨_, _, rfl⟩

set_option maxHeartbeats 1000000 in
theorem specBetween_any (a b c d : Int) (w : World) :
    Calls Tryd.prog 9 #[.agg #[.int .i64 a, .int .i64 b], .agg #[.int .i64 c, .int .i64 d]] w fun e w' => e = .returned (betweenV a b c d) ∧ Below w.heap.size w w' := by
  unfold betweenV
  have V1 := Lib.hid (fun w => l03Ok_any a b w)
  have V2 := Lib.hid (fun w => l03Ok_any c d w)
  cases h1 : okM a b with
  | false =>
    rw [if_neg (by simp)]
    rw [h1] at V1
    clear h1
    go_enter Tryd.func9, Tryd.ntmps9
    go_wp2_with fail
    refine (V1.out _).mono ?_
    rintro e w1 ⟨rfl, hb⟩
    obtain ⟨hcw1, hfw1⟩ := bcell hb
    have HBw1 : Hid (Below w.heap.size w w1) := by
      apply Lib.hid
      refine Below.trans ?_ (hb.mono ?_)
      · repeat (first | exact Below.refl _ _ | refine Below.setCell ?_ (by first | (simp; done) | omega | (simp; omega)) _ | refine Below.alloc ?_ (by first | (simp; done) | omega | (simp; omega)) _)
      · first | (simp; done) | omega | (simp; omega)
    have hzw1 : w.heap.size + 1 < w1.heap.size := by have := hb.size; (try simp at this); omega
    have hyw1 : w.heap.size < w1.heap.size := by have := hb.size; (try simp at this); omega
    clear hb
    go_wp2_with fail
    go_ret2
    exact ⟨rfl, HBw1.out⟩
  | true =>
    obtain ⟨⟨a0, a1⟩, b0, b1⟩ := okM_bd a b h1
    rw [h1] at V1
    clear h1
    cases h2 : okM c d with
    | false =>
      rw [if_neg (by simp)]
      rw [h2] at V2
      clear h2
      go_enter Tryd.func9, Tryd.ntmps9
      go_wp2_with fail
      refine (V1.out _).mono ?_
      rintro e w1 ⟨rfl, hb⟩
      obtain ⟨hcw1, hfw1⟩ := bcell hb
      have HBw1 : Hid (Below w.heap.size w w1) := by
        apply Lib.hid
        refine Below.trans ?_ (hb.mono ?_)
        · repeat (first | exact Below.refl _ _ | refine Below.setCell ?_ (by first | (simp; done) | omega | (simp; omega)) _ | refine Below.alloc ?_ (by first | (simp; done) | omega | (simp; omega)) _)
        · first | (simp; done) | omega | (simp; omega)
      have hzw1 : w.heap.size + 1 < w1.heap.size := by have := hb.size; (try simp at this); omega
      have hyw1 : w.heap.size < w1.heap.size := by have := hb.size; (try simp at this); omega
      clear hb
      go_wp2_with fail
      refine (V2.out _).mono ?_
      rintro e w2 ⟨rfl, hb⟩
      obtain ⟨hcw2, hfw2⟩ := bcell hb
      have HBw2 : Hid (Below w.heap.size w w2) := by
        apply Lib.hid
        refine Below.trans ?_ (hb.mono ?_)
        · repeat (first | exact Below.refl _ _ | exact HBw1.out | refine Below.setCell ?_ (by first | (simp; done) | omega | (simp; omega)) _ | refine Below.alloc ?_ (by first | (simp; done) | omega | (simp; omega)) _)
        · first | (simp; done) | omega | (simp; omega)
      have hzw2 : w.heap.size + 1 < w2.heap.size := by have := hb.size; (try simp at this); omega
      have hyw2 : w.heap.size < w2.heap.size := by have := hb.size; (try simp at this); omega
      clear hb
      go_wp2_with fail
      go_ret2
      exact ⟨rfl, HBw2.out⟩
    | true =>
      obtain ⟨⟨c0, c1⟩, d0, d1⟩ := okM_bd c d h2
      rw [if_pos ⟨rfl, rfl⟩]
      rw [h2] at V2
      clear h2
      go_enter Tryd.func9, Tryd.ntmps9
      go_wp2_with fail
      refine (V1.out _).mono ?_
      rintro e w1 ⟨rfl, hb⟩
      obtain ⟨hcw1, hfw1⟩ := bcell hb
      have HBw1 : Hid (Below w.heap.size w w1) := by
        apply Lib.hid
        refine Below.trans ?_ (hb.mono ?_)
        · repeat (first | exact Below.refl _ _ | refine Below.setCell ?_ (by first | (simp; done) | omega | (simp; omega)) _ | refine Below.alloc ?_ (by first | (simp; done) | omega | (simp; omega)) _)
        · first | (simp; done) | omega | (simp; omega)
      have hzw1 : w.heap.size + 1 < w1.heap.size := by have := hb.size; (try simp at this); omega
      have hyw1 : w.heap.size < w1.heap.size := by have := hb.size; (try simp at this); omega
      clear hb
      go_wp2_with fail
      refine (V2.out _).mono ?_
      rintro e w2 ⟨rfl, hb⟩
      obtain ⟨hcw2, hfw2⟩ := bcell hb
      have HBw2 : Hid (Below w.heap.size w w2) := by
        apply Lib.hid
        refine Below.trans ?_ (hb.mono ?_)
        · repeat (first | exact Below.refl _ _ | exact HBw1.out | refine Below.setCell ?_ (by first | (simp; done) | omega | (simp; omega)) _ | refine Below.alloc ?_ (by first | (simp; done) | omega | (simp; omega)) _)
        · first | (simp; done) | omega | (simp; omega)
      have hzw2 : w.heap.size + 1 < w2.heap.size := by have := hb.size; (try simp at this); omega
      have hyw2 : w.heap.size < w2.heap.size := by have := hb.size; (try simp at this); omega
      clear hb
      go_wp2_with fail
      have k1 : w2.cell? ⟨w.heap.size, 0, none⟩ = some (.int .i64 a) := by rw [hcw2 _ _ (by omega), hcw1 _ _ (by first | (simp; done) | omega | (simp; omega))]; simp
      have k2 : w2.cell? ⟨w.heap.size, 1, none⟩ = some (.int .i64 b) := by rw [hcw2 _ _ (by omega), hcw1 _ _ (by first | (simp; done) | omega | (simp; omega))]; simp
      have k3 : w2.cell? ⟨w.heap.size + 1, 0, none⟩ = some (.int .i64 c) := by rw [hcw2 _ _ (by omega), hcw1 _ _ (by first | (simp; done) | omega | (simp; omega))]; simp
      have k4 : w2.cell? ⟨w.heap.size + 1, 1, none⟩ = some (.int .i64 d) := by rw [hcw2 _ _ (by omega), hcw1 _ _ (by first | (simp; done) | omega | (simp; omega))]; simp
      clear hcw1 hfw1 hcw2 hfw2
      have M1 := Lib.hid (fun w => l03All_any a b a0 a1 b0 b1 w)
      have M2 := Lib.hid (fun w => l03All_any c d c0 c1 d0 d1 w)
      have HD : Hid (Below w.heap.size w w2.drew) := Lib.hid (Below.trans HBw2.out ⟨rfl, rfl, rfl, Nat.le_refl _, fun _ _ => rfl⟩)
      have mw : IntKind.i64.wrap (c * 86400000 + d - (a * 86400000 + b)) = c * 86400000 + d - (a * 86400000 + b) := IntWalk.i64_in _ (by omega)
      go_region_with ((go_at_call 25; (first
        | ((with_reducible refine (M2.out _).mono ?_); rintro e w3 ⟨rfl, hb⟩; have l1 : w3.cell? ⟨w.heap.size, 0, none⟩ = some (.int .i64 a) := (hb.cell (p := ⟨w.heap.size, 0, none⟩) hyw2).trans k1; have l2 : w3.cell? ⟨w.heap.size, 1, none⟩ = some (.int .i64 b) := (hb.cell (p := ⟨w.heap.size, 1, none⟩) hyw2).trans k2)
        | ((with_reducible refine (M1.out _).mono ?_); rintro e w4 ⟨rfl, hb4⟩))))
      all_goals
        have HF : Hid (Below w.heap.size w w4) := Lib.hid ((HD.out.trans (hb.mono (Nat.le_of_lt hyw2))).trans (hb4.mono (by have := hb.size; have : w2.drew.heap.size = w2.heap.size := rfl; omega)))
        clear hb hb4 l1 l2 k1 k2 k3 k4
        go_wp2_with fail
        go_ret2
        exact ⟨rfl, HF.out⟩
end Go.Proofs.YtcehiagpknmmeaaDoor
