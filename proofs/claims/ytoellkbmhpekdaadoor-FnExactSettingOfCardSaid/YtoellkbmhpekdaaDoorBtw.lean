/-
  Angles between angles: the contract of AngleBetween (package impl).
-/
import Derived.Test.YtoellkbmhpekdaaDoorNrm
namespace Go.Proofs.YtoellkbmhpekdaaDoor
open Go.RowKit

end Go.Proofs.YtoellkbmhpekdaaDoor
