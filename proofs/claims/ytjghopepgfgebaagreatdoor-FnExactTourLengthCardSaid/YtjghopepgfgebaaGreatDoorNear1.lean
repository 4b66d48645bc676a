/-
  Distances of stars: the contracts of towards (both), distanceOf (package impl) and of l05Apart (package spec).
-/
import Derived.Test.YtjghopepgfgebaaGreatDoorStarI
import Derived.Test.YtjghopepgfgebaaGreatDoorDir
import Derived.Test.YtjghopepgfgebaaGreatDoorSSep
import Derived.Test.YtjghopepgfgebaaGreatDoorTow
import Derived.Handy
namespace Go.Proofs.YtjghopepgfgebaaGreatDoor
open Go.RowKit
set_option linter.unusedVariables false

def fstI : Value → Int
  | .tuple #[.int _ n, _] => n
  | _ => 0
def sepN (a b : Int × Int × Int) : Int := fstI (sepV a.1 a.2.1 a.2.2 b.1 b.2.1 b.2.2)
theorem sepN_eq (a b : Int × Int × Int) : ∃ d : Int, sepV a.1 a.2.1 a.2.2 b.1 b.2.1 b.2.2 = .tuple #[.int .i64 (sepN a b), .int .i64 d] := by
  obtain ⟨p, q, h⟩ := sepV_form a.1 a.2.1 a.2.2 b.1 b.2.1 b.2.2
  refine ⟨q, ?_⟩
  unfold sepN
  rw [h]
  rfl
end Go.Proofs.YtjghopepgfgebaaGreatDoor
