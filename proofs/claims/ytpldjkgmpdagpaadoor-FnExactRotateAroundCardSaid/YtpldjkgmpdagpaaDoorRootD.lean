/-
  Square roots: the contract of RootOf (package impl).
-/
import Derived.Test.YtpldjkgmpdagpaaDoorCore
import Derived.Test.YtpldjkgmpdagpaaDoorRootMath
import Derived.Test.YtpldjkgmpdagpaaDoorShelf
namespace Go.Proofs.YtpldjkgmpdagpaaDoor
open Go.RowKit

/-- The call returned the root of n, and has made at most new blocks. -/
def RootPost (n : Int) (w : World) (e : Ending) (w' : World) : Prop := ∃ r : Int, IsRoot n r ∧ e = .returned (.int .i64 r) ∧ w = w'

end Go.Proofs.YtpldjkgmpdagpaaDoor
