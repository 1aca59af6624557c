/- Differences of valid fractions, on both sides. -/
import Derived.Test.YtojklmckjebplaaVecNum
namespace Go.Proofs.Ytojklmckjebplaa
open Go.RowKit Go.WideShapes Go.ChangeShapes
set_option linter.unusedVariables false
set_option linter.unusedSimpArgs false
theorem fr_forms {w : World} {v d : Value} {f : Fr} (h : RowR w v f.mag d f.den) : ∃ a c e k, v = .slice a f.mag.length c ∧ d = .slice e f.den.length k := by
  obtain ⟨⟨a, c, rfl, _⟩, ⟨e, k, rfl, _⟩⟩ := h
  exact ⟨a, c, e, k, rfl, rfl⟩

end Go.Proofs.Ytojklmckjebplaa
