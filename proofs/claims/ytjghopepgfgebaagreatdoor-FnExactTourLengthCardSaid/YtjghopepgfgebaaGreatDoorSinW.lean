/-
  Sines and cosines: the contracts of SineOf, CosineOf (both packages) and of l02Cosine.
-/
import Derived.Test.YtjghopepgfgebaaGreatDoorSin
import Derived.Test.YtjghopepgfgebaaGreatDoorSSin
namespace Go.Proofs.YtjghopepgfgebaaGreatDoor
open Go.RowKit

set_option maxHeartbeats 400000 in
theorem implSine_any (a : Int) (h0 : -9223372036854775808 ≤ a) (h1 : a ≤ 9223372036854775807) (w : World) (hs : SinesOK w) :
    Calls Tryz.prog 152 #[.int .i64 a] w fun e w' => e = .returned (.int .i64 (sinI a)) ∧ Below w.heap.size w w' := by
  have S := Lib.hid (sine_any a h0 h1 w hs)
  clear hs
  go_enter Tryz.func152, Tryz.ntmps152
  go_wp2_with fail
  refine S.out.mono ?_
  rintro e w' ⟨rfl, hb⟩
  go_wp2_with fail
  go_ret
  exact ⟨rfl, hb⟩
set_option maxHeartbeats 400000 in
theorem implCosine_any (a : Int) (h0 : -9223372036854775808 ≤ a) (h1 : a ≤ 9223372036854775807) (w : World) (hs : SinesOK w) :
    Calls Tryz.prog 153 #[.int .i64 a] w fun e w' => e = .returned (.int .i64 (cosI a)) ∧ Below w.heap.size w w' := by
  have S := Lib.hid (cosine_any a h0 h1 w hs)
  clear hs
  go_enter Tryz.func153, Tryz.ntmps153
  go_wp2_with fail
  refine S.out.mono ?_
  rintro e w' ⟨rfl, hb⟩
  go_wp2_with fail
  go_ret
  exact ⟨rfl, hb⟩
set_option maxHeartbeats 400000 in
theorem l02Cosine_any (a : Int) (h0 : -9223372036854775808 ≤ a) (h1 : a ≤ 9223372036854775807) (w : World) :
    Calls Tryz.prog 118 #[.int .i64 a] w fun e w' => e = .returned (.int .i64 (cosI a)) ∧ Below w.heap.size w w' := by
  obtain ⟨n0, n1⟩ := nrm_bd a
  have F := Lib.hid (l02Normal_any a w h0 h1)
  have S := Lib.hid (l02Sine_any (nrm a + 90000) (by omega) (by omega) w)
  unfold cosI
  go_enter Tryz.func118, Tryz.ntmps118
  go_wp2_with fail
  refine F.out.mono ?_
  rintro e w' ⟨rfl, rfl⟩
  go_wp2_with fail
  refine S.out.mono ?_
  rintro e w' ⟨rfl, hb⟩
  go_wp2_with fail
  go_ret
  exact ⟨rfl, hb⟩
end Go.Proofs.YtjghopepgfgebaaGreatDoor
