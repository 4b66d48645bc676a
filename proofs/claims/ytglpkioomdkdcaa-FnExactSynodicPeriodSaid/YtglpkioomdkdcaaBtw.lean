/-
  Angles between angles: the contract of AngleBetween (package impl).
-/
import Derived.Test.YtglpkioomdkdcaaNrm
namespace Go.Proofs.Ytglpkioomdkdcaa
open Go.RowKit

end Go.Proofs.Ytglpkioomdkdcaa
