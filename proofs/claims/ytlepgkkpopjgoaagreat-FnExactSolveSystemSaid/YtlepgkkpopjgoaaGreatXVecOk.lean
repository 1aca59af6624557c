/- VecUnit VecOk. -/
import Derived.Test.YtlepgkkpopjgoaaGreatXVecZero
import Derived.Test.YtlepgkkpopjgoaaGreatXRatOk
namespace Go.Proofs.YtlepgkkpopjgoaaGreat
open Go.RowKit Go.WideShapes Go.ChangeShapes
set_option linter.unusedVariables false
set_option linter.unusedSimpArgs false
theorem OwnV.some_at {w : World} {B : Nat} {v : Value} {L : List Fr} {xs : List (Value × Value)} (h : OwnV w B v L xs) (h0 : 0 < L.length) : ∃ g c, v = .slice (some ⟨g, 0, none⟩) L.length c ∧ B ≤ g ∧ g < w.heap.size := by
 rcases h.row.2 with ⟨hv, hn⟩ | ⟨g, cap, cur, hv, _⟩
 ·omega
 ·exact ⟨g, cap, hv, h.lt g (.inl (by rw [hv]; rfl))⟩
theorem grow_set {P : List Fr} {n k : Nat} (hP : P.length = k) (hk : k < n) (f : Fr) : (P ++ List.replicate (n - k) Fr.zero).set k f = (P ++ [f]) ++ List.replicate (n - (k + 1)) Fr.zero := by
 obtain ⟨m, rfl⟩ : ∃ m, n = k + 1 + m := ⟨n - (k + 1), by omega⟩
 rw [show k + 1 + m - k = m + 1 by omega, show k + 1 + m - (k + 1) = m by omega, List.set_append_right _ _ (by omega), hP, Nat.sub_self, List.replicate_succ, List.set_cons_zero]
 simp
end Go.Proofs.YtlepgkkpopjgoaaGreat
namespace Go.Proofs.YtlepgkkpopjgoaaGreat
open Go.RowKit Go.WideShapes Go.ChangeShapes
set_option linter.unusedVariables false
set_option linter.unusedSimpArgs false
theorem spec_isV (v : Value) (L : List Fr) (w : World) (h : RatsAt w v L) : Calls Tryz.prog 90 #[v] w fun e w' => e = .returned (.bool (vecB ratOk L)) ∧ Below w.heap.size w w' :=
 spec_isVector ratOk (fun b v zs d ds w h => spec_ratOk b v zs d ds w h) v L w h
theorem impl_isV (v : Value) (L : List Fr) (w : World) (h : RatsAt w v L) : Calls Tryz.prog 64 #[v] w fun e w' => e = .returned (.bool (vecB ratOk L)) ∧ Below w.heap.size w w' :=
 impl_isVectorH ratOk (fun b v zs d ds w h => impl_ratOk b v zs d ds w h) v L w h
end Go.Proofs.YtlepgkkpopjgoaaGreat
