/- The model's vector of zeros, RatFromInt's contract open. -/
import Derived.Test.YtlepgkkpopjgoaaGreatZVecx
namespace Go.Proofs.YtlepgkkpopjgoaaGreat
open Go.RowKit Go.WideShapes Go.ChangeShapes
set_option linter.unusedVariables false
def zF : Fr := ⟨false, [], [1]⟩
end Go.Proofs.YtlepgkkpopjgoaaGreat
