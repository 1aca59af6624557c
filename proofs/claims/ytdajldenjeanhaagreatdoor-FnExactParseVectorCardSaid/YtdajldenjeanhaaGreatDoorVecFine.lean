/- Small functions of the model over vectors: l05Bad, l05Fine, l05Done, l05Pair (IsVector's contract open). -/
import Derived.Test.YtdajldenjeanhaaGreatDoorVecTry3
namespace Go.Proofs.YtdajldenjeanhaaGreatDoor
open Go.RowKit Go.WideShapes Go.ChangeShapes
set_option linter.unusedVariables false
def badF (f : Fr) : Bool := decide (f.den.length = 0)
def fineV (L : List Fr) : Bool := L.all (fun f => !badF f)
def pairV (ok : List Fr → Bool) (A B : List Fr) : Bool := ok A && (ok B && decide (A.length = B.length))
end Go.Proofs.YtdajldenjeanhaaGreatDoor
