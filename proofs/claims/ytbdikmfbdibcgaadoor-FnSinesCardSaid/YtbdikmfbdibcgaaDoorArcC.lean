/-
  The closures of ArcSine and ArcCosine (package impl).
-/
import Derived.Test.YtbdikmfbdibcgaaDoorFirst
import Derived.Test.YtbdikmfbdibcgaaDoorSin
import Derived.Deep.RegionWith
namespace Go.Proofs.YtbdikmfbdibcgaaDoor
open Go.RowKit
set_option linter.unusedVariables false

set_option maxHeartbeats 400000 in
theorem arcSine_in (b : Nat) (v a : Int) (w : World) (a0 : -360000 ≤ a) (a1 : a ≤ 360000) (hs : SinesOK w) (hc : w.cell? ⟨b, 0, none⟩ = some (.int .i64 v)) :
    Calls Tryd.prog 33 (#[.int .i64 a] ++ #[.pointer (some ⟨b, 0, none⟩)]) w fun e w' => e = .returned (.bool (decide (v ≤ sinI a))) ∧ Below w.heap.size w w' := by
  have HD := Lib.hid (hs.below (w' := w.drew) ⟨rfl, rfl, rfl, Nat.le_refl _, fun _ _ => rfl⟩)
  have hbl := World.block_lt_of_cell? w ⟨b, 0, none⟩ hc
  have F := Lib.hid (fun W h => sine_any a (by omega) (by omega) W h)
  clear hs
  generalize sinI a = z at *
  go_enter Tryd.func33, Tryd.ntmps33
  go_wp2_with fail
  go_region_with ((go_at_call 25; refine (F.out _ HD.out).mono ?_; rintro e w' ⟨rfl, hb⟩; have hc' : w'.cell? ⟨b, 0, none⟩ = some (.int .i64 v) := (hb.cell (p := ⟨b, 0, none⟩) hbl).trans hc))
  all_goals
    have HB : Hid (Below w.heap.size w w') := Lib.hid (Below.trans (b := w.drew) ⟨rfl, rfl, rfl, Nat.le_refl _, fun _ _ => rfl⟩ hb)
    clear hb hc'
    go_wp2_with fail
    go_ret
    exact ⟨rfl, HB.out⟩
set_option maxHeartbeats 400000 in
theorem arcCosine_in (b : Nat) (v a : Int) (w : World) (a0 : -360000 ≤ a) (a1 : a ≤ 360000) (hs : SinesOK w) (hc : w.cell? ⟨b, 0, none⟩ = some (.int .i64 v)) :
    Calls Tryd.prog 34 (#[.int .i64 a] ++ #[.pointer (some ⟨b, 0, none⟩)]) w fun e w' => e = .returned (.bool (decide (cosI a ≤ v))) ∧ Below w.heap.size w w' := by
  have HD := Lib.hid (hs.below (w' := w.drew) ⟨rfl, rfl, rfl, Nat.le_refl _, fun _ _ => rfl⟩)
  have hbl := World.block_lt_of_cell? w ⟨b, 0, none⟩ hc
  have F := Lib.hid (fun W h => cosine_any a (by omega) (by omega) W h)
  clear hs
  generalize cosI a = z at *
  go_enter Tryd.func34, Tryd.ntmps34
  go_wp2_with fail
  go_region_with ((go_at_call 26; refine (F.out _ HD.out).mono ?_; rintro e w' ⟨rfl, hb⟩; have hc' : w'.cell? ⟨b, 0, none⟩ = some (.int .i64 v) := (hb.cell (p := ⟨b, 0, none⟩) hbl).trans hc))
  all_goals
    have HB : Hid (Below w.heap.size w w') := Lib.hid (Below.trans (b := w.drew) ⟨rfl, rfl, rfl, Nat.le_refl _, fun _ _ => rfl⟩ hb)
    clear hb hc'
    go_wp2_with fail
    go_ret
    exact ⟨rfl, HB.out⟩
end Go.Proofs.YtbdikmfbdibcgaaDoor
