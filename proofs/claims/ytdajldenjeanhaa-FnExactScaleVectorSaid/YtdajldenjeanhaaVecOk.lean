/- IsVector of both sides, RatOk's contract filled in. -/
import Derived.Test.YtdajldenjeanhaaVecIs
import Derived.Test.YtdajldenjeanhaaRatOk
namespace Go.Proofs.Ytdajldenjeanhaa
open Go.RowKit Go.WideShapes Go.ChangeShapes
set_option linter.unusedVariables false
set_option linter.unusedSimpArgs false
theorem spec_isV (v : Value) (L : List Fr) (w : World) (h : RatsAt w v L) : Calls Try.prog 12 #[v] w fun e w' => e = .returned (.bool (vecB ratOk L)) ∧ Below w.heap.size w w' :=
  spec_isVector ratOk (fun b v zs d ds w h => spec_ratOk b v zs d ds w h) v L w h
theorem impl_isV (v : Value) (L : List Fr) (w : World) (h : RatsAt w v L) : Calls Try.prog 14 #[v] w fun e w' => e = .returned (.bool (vecB ratOk L)) ∧ Below w.heap.size w w' :=
  impl_isVectorH ratOk (fun b v zs d ds w h => impl_ratOk b v zs d ds w h) v L w h
theorem spec_pairV (v0 : Value) (L0 : List Fr) (v1 : Value) (L1 : List Fr) (w : World) (h0 : RatsAt w v0 L0) (h1 : RatsAt w v1 L1) :
    Calls Try.prog 45 #[v0, v1] w fun e w' => e = .returned (.bool (pairV (vecB ratOk) L0 L1)) ∧ Below w.heap.size w w' :=
  spec_pair (vecB ratOk) (fun v L w h => spec_isV v L w h) v0 L0 v1 L1 w h0 h1

end Go.Proofs.Ytdajldenjeanhaa
