/-
  Directions: the contracts of isTurnAngle, isElevation and of a direction's isValid (package impl).
-/
import Derived.Test.YtcdmgkjaionjpaaNam
import Derived.Test.YtcdmgkjaionjpaaVec0
import Derived.Test.YtcdmgkjaionjpaaArg0
import Derived.RegionTactic
import Derived.Deep.QuietTactic
import Derived.BigQuiet
import Derived.Deep.Draws
namespace Go.Proofs.Ytcdmgkjaionjpaa
open Go.RowKit
set_option linter.unusedVariables false

def dirB (a b : Int) : Bool := inR 0 359999 [a] && inR (-90000) 90000 [b]

end Go.Proofs.Ytcdmgkjaionjpaa
