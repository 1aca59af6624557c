/- IsVector of both sides, RatOk's contract filled in. -/
import Derived.Test.YtojklmckjebplaaGreatVecx
import Derived.Test.YtojklmckjebplaaGreatRatOk
namespace Go.Proofs.YtojklmckjebplaaGreat
open Go.RowKit Go.WideShapes Go.ChangeShapes
set_option linter.unusedVariables false
set_option linter.unusedSimpArgs false
theorem spec_isV (v : Value) (L : List Fr) (w : World) (h : RatsAt w v L) : Calls Tryz.prog 27 #[v] w fun e w' => e = .returned (.bool (vecB ratOk L)) ∧ Below w.heap.size w w' :=
  spec_isVector ratOk (fun b v zs d ds w h => spec_ratOk b v zs d ds w h) v L w h
theorem impl_isV (v : Value) (L : List Fr) (w : World) (h : RatsAt w v L) : Calls Tryz.prog 31 #[v] w fun e w' => e = .returned (.bool (vecB ratOk L)) ∧ Below w.heap.size w w' :=
  impl_isVectorH ratOk (fun b v zs d ds w h => impl_ratOk b v zs d ds w h) v L w h
end Go.Proofs.YtojklmckjebplaaGreat
