/-
  NearestStar (package spec).
-/
import Derived.Test.YtlkmogjfgnhbcaaDoorNear5
import Derived.Test.YtlkmogjfgnhbcaaDoorNear6
namespace Go.Proofs.YtlkmogjfgnhbcaaDoor
open Go.RowKit
set_option linter.unusedVariables false

end Go.Proofs.YtlkmogjfgnhbcaaDoor
