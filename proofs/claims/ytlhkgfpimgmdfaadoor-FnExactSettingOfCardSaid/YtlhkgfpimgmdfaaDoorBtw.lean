/-
  Angles between angles: the contract of AngleBetween (package impl).
-/
import Derived.Test.YtlhkgfpimgmdfaaDoorNrm
namespace Go.Proofs.YtlhkgfpimgmdfaaDoor
open Go.RowKit

end Go.Proofs.YtlhkgfpimgmdfaaDoor
