/-
  The contracts of least, greatest and within (package impl) at int and at byte.
-/
import Derived.Test.YtbbkohpmncfilaaCore
namespace Go.Proofs.Ytbbkohpmncfilaa
open Go.RowKit

end Go.Proofs.Ytbbkohpmncfilaa
