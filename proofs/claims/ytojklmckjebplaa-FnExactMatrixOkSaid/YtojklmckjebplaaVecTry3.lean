/- A trial: IsVector of the model, RatOk's contract open. -/
import Derived.Test.YtojklmckjebplaaVecs
import Derived.Deep.CutBlock
import Derived.Deep.CutRange
import Derived.Deep.RegionHeld3
namespace Go.Proofs.Ytojklmckjebplaa
open Go.RowKit Go.WideShapes Go.ChangeShapes
set_option linter.unusedVariables false
theorem all_take {α : Type} {p : α → Bool} {L : List α} {k : Nat} (hk : k < L.length) : (L.take (k + 1)).all p = ((L.take k).all p && p (L[k]'hk)) := by
  rw [List.take_succ_eq_append_getElem hk, List.all_append]; simp
theorem all_no {α : Type} {p : α → Bool} {L : List α} {k : Nat} (hk : k < L.length) (h : p (L[k]'hk) = false) : L.all p = false := by
  rw [List.all_eq_false]; exact ⟨_, List.getElem_mem hk, by simp [h]⟩
def vecB (ok : Bool → List Int → List Int → Bool) (L : List Fr) : Bool := decide (L.length ≤ 24) && L.all (fun f => ok f.neg f.mag f.den)
end Go.Proofs.Ytojklmckjebplaa
