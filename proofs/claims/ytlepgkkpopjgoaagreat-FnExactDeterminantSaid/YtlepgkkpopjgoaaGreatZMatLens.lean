/- How much the answers over matrices hold; the contracts of copies. -/
import Derived.Test.YtlepgkkpopjgoaaGreatZMatx
import Derived.Test.YtlepgkkpopjgoaaGreatZSpecCopy
import Derived.Test.YtlepgkkpopjgoaaGreatZRatOps
import Derived.Test.YtlepgkkpopjgoaaGreatZVecNum
import Derived.Test.YtlepgkkpopjgoaaGreatZVecOk
import Derived.Test.YtlepgkkpopjgoaaGreatZVecSub
namespace Go.Proofs.YtlepgkkpopjgoaaGreat
open Go.RowKit Go.WideShapes Go.ChangeShapes
set_option linter.unusedVariables false
set_option linter.unusedSimpArgs false
theorem szM_le {L : List Fr} (h : ∀ f ∈ L, f.mag.length ≤ 60 ∧ f.den.length ≤ 60) : szL L ≤ L.length * 120 := by
  induction L with
  | nil => simp [szL]
  | cons f L ih =>
    have h1 := h f (List.mem_cons_self ..)
    have h2 := ih (fun g hg => h g (List.mem_cons_of_mem _ hg))
    simp only [szL, List.length_cons]; omega
theorem cntM_le {L : List Fr} (h0 : L.length ≤ 576) (h : ∀ f ∈ L, f.mag.length ≤ 60 ∧ f.den.length ≤ 60) : cntL L ≤ 100000 := by
  have := szM_le h
  unfold cntL; omega
theorem cnt_nil : cntL [] ≤ 100000 := by simp [cntL, szL]
theorem ok_lens {f : Fr} (h : ratOk f.neg f.mag f.den = true) : f.mag.length ≤ 60 ∧ f.den.length ≤ 60 := by
  obtain ⟨b, x, d, rfl, hx, hd, _⟩ := okF_parts (f := f) h
  have h1 := (nlen_le_iff _ _).2 hx
  have h2 := (nlen_le_iff _ _).2 hd
  simp only [limI_length]; omega
theorem spec_copyF (f : Fr) (h : ratOk f.neg f.mag f.den = true) (v d : Value) (w : World) (h0 : RowR w v f.mag d f.den) :
    Calls Tryz.prog 154 #[.agg #[.bool f.neg, v, d]] w fun r w' => ∃ x y, r = .returned (.agg #[.bool f.neg, x, y]) ∧ OwnR w' w.heap.size x f.mag y f.den ∧ Below w.heap.size w w' := by
  obtain ⟨b, x, e, rfl, hx, he, _⟩ := okF_parts (f := f) h
  exact spec_copy b v x d e w h0 hx he
theorem impl_cloneF (f : Fr) (h : ratOk f.neg f.mag f.den = true) (v d : Value) (w : World) (h0 : RowR w v f.mag d f.den) :
    Calls Tryz.prog 102 #[.agg #[.bool f.neg, v, d]] w fun r w' => ∃ x y, r = .returned (.agg #[.bool f.neg, x, y]) ∧ OwnR w' w.heap.size x f.mag y f.den ∧ Below w.heap.size w w' := by
  obtain ⟨b, x, e, rfl, hx, he, _⟩ := okF_parts (f := f) h
  exact impl_cloneR b v x d e w h0 hx he

end Go.Proofs.YtlepgkkpopjgoaaGreat
