/-
  Sines of package spec: the contracts of l02Sine and l02Cosine.
-/
import Derived.Test.YtbdikmfbdibcgaaDoorSTab
import Derived.RegionTactic
import Derived.Deep.QuietTactic
import Derived.BigQuiet
namespace Go.Proofs.YtbdikmfbdibcgaaDoor
open Go.RowKit
set_option linter.unusedVariables false

end Go.Proofs.YtbdikmfbdibcgaaDoor
