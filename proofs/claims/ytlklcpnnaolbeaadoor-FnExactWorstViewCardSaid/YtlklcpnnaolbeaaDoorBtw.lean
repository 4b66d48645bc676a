/-
  Angles between angles: the contract of AngleBetween (package impl).
-/
import Derived.Test.YtlklcpnnaolbeaaDoorNrm
namespace Go.Proofs.YtlklcpnnaolbeaaDoor
open Go.RowKit

end Go.Proofs.YtlklcpnnaolbeaaDoor
