/- A valid matrix times a valid vector, in the program. -/
import Derived.Test.YtlepgkkpopjgoaaGreatYMatItr
import Derived.Test.YtlepgkkpopjgoaaGreatYMatId
import Derived.Test.YtlepgkkpopjgoaaGreatYVecZero
import Derived.Test.YtlepgkkpopjgoaaGreatYElSpec
import Derived.Test.YtlepgkkpopjgoaaGreatYVecOk
import Derived.Deep.RegionWith
namespace Go.Proofs.YtlepgkkpopjgoaaGreat
open Go.RowKit Go.WideShapes Go.ChangeShapes Go.Shelf
set_option linter.unusedVariables false
set_option linter.unusedSimpArgs false
attribute [local go_sem] Oper.semAt_some
theorem boxed_keptK {W W' : World} {S : Nat → Prop} {B : Nat} {t : TypeId} {v : Value} (h : Boxed W B t v) (hk : Kept S W W') (hn : ¬ S B) : Boxed W' B t v := (hk.block B h.lt hn).trans h
end Go.Proofs.YtlepgkkpopjgoaaGreat
