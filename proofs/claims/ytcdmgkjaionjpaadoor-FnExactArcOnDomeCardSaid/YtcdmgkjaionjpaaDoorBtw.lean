/-
  Angles between angles: the contract of AngleBetween (package impl).
-/
import Derived.Test.YtcdmgkjaionjpaaDoorNrm
namespace Go.Proofs.YtcdmgkjaionjpaaDoor
open Go.RowKit

end Go.Proofs.YtcdmgkjaionjpaaDoor
