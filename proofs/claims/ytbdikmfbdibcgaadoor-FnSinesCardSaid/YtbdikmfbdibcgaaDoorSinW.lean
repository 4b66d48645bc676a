/-
  Sines and cosines: the contracts of SineOf, CosineOf (both packages) and of l02Cosine.
-/
import Derived.Test.YtbdikmfbdibcgaaDoorSin
import Derived.Test.YtbdikmfbdibcgaaDoorSSin
namespace Go.Proofs.YtbdikmfbdibcgaaDoor
open Go.RowKit

set_option maxHeartbeats 400000 in
theorem implSine_any (a : Int) (h0 : -9223372036854775808 ≤ a) (h1 : a ≤ 9223372036854775807) (w : World) (hs : SinesOK w) :
    Calls Tryd.prog 7 #[.int .i64 a] w fun e w' => e = .returned (.int .i64 (sinI a)) ∧ Below w.heap.size w w' := by
  have S := Lib.hid (sine_any a h0 h1 w hs)
  clear hs
  go_enter Tryd.func7, Tryd.ntmps7
  go_wp2_with fail
  refine S.out.mono ?_
  rintro e w' ⟨rfl, hb⟩
  go_wp2_with fail
  go_ret
  exact ⟨rfl, hb⟩
set_option maxHeartbeats 400000 in
theorem implCosine_any (a : Int) (h0 : -9223372036854775808 ≤ a) (h1 : a ≤ 9223372036854775807) (w : World) (hs : SinesOK w) :
    Calls Tryd.prog 8 #[.int .i64 a] w fun e w' => e = .returned (.int .i64 (cosI a)) ∧ Below w.heap.size w w' := by
  have S := Lib.hid (cosine_any a h0 h1 w hs)
  clear hs
  go_enter Tryd.func8, Tryd.ntmps8
  go_wp2_with fail
  refine S.out.mono ?_
  rintro e w' ⟨rfl, hb⟩
  go_wp2_with fail
  go_ret
  exact ⟨rfl, hb⟩
end Go.Proofs.YtbdikmfbdibcgaaDoor
