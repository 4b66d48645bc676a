/-
  The first angle for which a function answers true: the contract of firstAngle (package impl) and of its closure.
-/
import Derived.Test.YtpldjkgmpdagpaaDoorSrch
namespace Go.Proofs.YtpldjkgmpdagpaaDoor
open Go.RowKit
set_option linter.unusedVariables false

end Go.Proofs.YtpldjkgmpdagpaaDoor
