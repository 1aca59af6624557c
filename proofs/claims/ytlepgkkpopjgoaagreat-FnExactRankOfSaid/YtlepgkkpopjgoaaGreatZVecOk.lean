/- IsVector of both sides, RatOk's contract filled in. -/
import Derived.Test.YtlepgkkpopjgoaaGreatZVecx
import Derived.Test.YtlepgkkpopjgoaaGreatZRatOk
namespace Go.Proofs.YtlepgkkpopjgoaaGreat
open Go.RowKit Go.WideShapes Go.ChangeShapes
set_option linter.unusedVariables false
set_option linter.unusedSimpArgs false
theorem impl_isV (v : Value) (L : List Fr) (w : World) (h : RatsAt w v L) : Calls Tryz.prog 64 #[v] w fun e w' => e = .returned (.bool (vecB ratOk L)) ∧ Below w.heap.size w w' :=
  impl_isVectorH ratOk (fun b v zs d ds w h => impl_ratOk b v zs d ds w h) v L w h
end Go.Proofs.YtlepgkkpopjgoaaGreat
