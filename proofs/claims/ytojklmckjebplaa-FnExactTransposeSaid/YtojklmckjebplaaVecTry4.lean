/- A trial: AddVectors of the model, contracts open. -/
import Derived.Test.YtojklmckjebplaaVecTry3
import Derived.Test.YtojklmckjebplaaVecApp
namespace Go.Proofs.Ytojklmckjebplaa
open Go.RowKit Go.WideShapes Go.ChangeShapes
set_option linter.unusedVariables false
def zipF (f : Fr → Fr → Fr) (A B : List Fr) : List Fr := List.zipWith f A B
theorem zip_take {f : Fr → Fr → Fr} {A B : List Fr} {k : Nat} (h0 : k < A.length) (h1 : k < B.length) : zipF f (A.take (k + 1)) (B.take (k + 1)) = zipF f (A.take k) (B.take k) ++ [f (A[k]'h0) (B[k]'h1)] := by
  unfold zipF
  rw [List.take_succ_eq_append_getElem h0, List.take_succ_eq_append_getElem h1, List.zipWith_append (by simp; omega)]
  rfl
theorem zip_len {f : Fr → Fr → Fr} {A B : List Fr} : (zipF f A B).length ≤ A.length := by unfold zipF; simp; omega
end Go.Proofs.Ytojklmckjebplaa
