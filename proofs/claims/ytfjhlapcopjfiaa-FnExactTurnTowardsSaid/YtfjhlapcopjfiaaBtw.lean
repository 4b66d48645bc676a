/-
  Angles between angles: the contract of AngleBetween (package impl).
-/
import Derived.Test.YtfjhlapcopjfiaaNrm
namespace Go.Proofs.Ytfjhlapcopjfiaa
open Go.RowKit

end Go.Proofs.Ytfjhlapcopjfiaa
