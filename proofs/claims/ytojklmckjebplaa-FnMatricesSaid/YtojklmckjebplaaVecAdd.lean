/- AddVectors and SubtractVectors of the model. -/
import Derived.Test.YtojklmckjebplaaVecOk
import Derived.Test.YtojklmckjebplaaVecSub
namespace Go.Proofs.Ytojklmckjebplaa
open Go.RowKit Go.WideShapes Go.ChangeShapes
set_option linter.unusedVariables false
set_option linter.unusedSimpArgs false
def pairOk (A B : List Fr) : Bool := pairV (vecB ratOk) A B
theorem vec_parts {L : List Fr} (h : vecB ratOk L = true) : L.length ≤ 24 ∧ ∀ k (hk : k < L.length), okF (L[k]'hk) = true := by
  unfold vecB at h
  simp only [Bool.and_eq_true, decide_eq_true_eq, List.all_eq_true] at h
  exact ⟨h.1, fun k hk => h.2 _ (List.getElem_mem hk)⟩
theorem pair_parts {A B : List Fr} (h : pairOk A B = true) : vecB ratOk A = true ∧ vecB ratOk B = true ∧ A.length = B.length := by
  unfold pairOk pairV at h
  simp only [Bool.and_eq_true, decide_eq_true_eq] at h
  exact ⟨h.1, h.2.1, h.2.2⟩
/-- the answer of a function that combines the elements of two vectors -/
def zipB (op : Fr → Fr → Fr) (A B : List Fr) : Bool := pairOk A B && fineV (zipF op A B)
def zipL (op : Fr → Fr → Fr) (A B : List Fr) : List Fr := if zipB op A B then zipF op A B else []
theorem zip_no {op : Fr → Fr → Fr} {A B : List Fr} (h : pairOk A B = false) : zipB op A B = false ∧ zipL op A B = [] := by
  have e : zipB op A B = false := by unfold zipB; rw [h]; rfl
  exact ⟨e, by unfold zipL; rw [e]; rfl⟩
theorem zip_bad {op : Fr → Fr → Fr} {A B : List Fr} (h : fineV (zipF op A B) = false) : zipB op A B = false ∧ zipL op A B = [] := by
  have e : zipB op A B = false := by unfold zipB; rw [h, Bool.and_false]
  exact ⟨e, by unfold zipL; rw [e]; rfl⟩
theorem zip_yes {op : Fr → Fr → Fr} {A B : List Fr} (hp : pairOk A B = true) (h : fineV (zipF op A B) = true) : zipB op A B = true ∧ zipL op A B = zipF op A B := by
  have e : zipB op A B = true := by unfold zipB; rw [hp, h]; rfl
  exact ⟨e, by unfold zipL; rw [e]; rfl⟩

end Go.Proofs.Ytojklmckjebplaa
