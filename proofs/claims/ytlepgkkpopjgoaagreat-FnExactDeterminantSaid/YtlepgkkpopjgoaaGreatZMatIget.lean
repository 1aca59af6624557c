/- CellAt and RowOf of the program; the contracts of IsVector and clone open. -/
import Derived.Test.YtlepgkkpopjgoaaGreatZMatIok
namespace Go.Proofs.YtlepgkkpopjgoaaGreat
open Go.RowKit Go.WideShapes Go.ChangeShapes
set_option linter.unusedVariables false
set_option linter.unusedSimpArgs false
theorem rowV_some {C : Nat} (h : 0 < C) (b o i : Nat) : rowV (some ⟨b, o, none⟩) C i = .slice (some ⟨b, o + i * C * 3, none⟩) C C := by
  unfold rowV; rw [if_neg (by omega)]; simp [Addr.add]
end Go.Proofs.YtlepgkkpopjgoaaGreat
