/-
  NearestStar (package spec).
-/
import Derived.Test.YtikfcadookimeaaGreatDoorNear5
import Derived.Test.YtikfcadookimeaaGreatDoorNear6
namespace Go.Proofs.YtikfcadookimeaaGreatDoor
open Go.RowKit
set_option linter.unusedVariables false

end Go.Proofs.YtikfcadookimeaaGreatDoor
