/-
  The nearest quotient within its limits: the contract of DivRound (package impl).
-/
import Derived.Test.YtecnhbgkkfcipaaQ2
namespace Go.Proofs.Ytecnhbgkkfcipaa
open Go.RowKit

/-- What both DivRound come to. -/
def divR (a b : Int) : Int := if inR (-1000000000000) 1000000000000 [a, b] = true then nearQ a b else 0

end Go.Proofs.Ytecnhbgkkfcipaa
