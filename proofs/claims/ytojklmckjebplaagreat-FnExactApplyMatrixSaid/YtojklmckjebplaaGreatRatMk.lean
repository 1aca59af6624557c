/- RatMake of the program and of the model. -/
import Derived.Test.YtojklmckjebplaaGreatSpecLow
namespace Go.Proofs.YtojklmckjebplaaGreat
open Go.RowKit Go.WideShapes Go.ChangeShapes
set_option linter.unusedVariables false
set_option linter.unusedSimpArgs false

def ratMakeB (b0 : Bool) (zs0 : List Int) (b1 : Bool) (zs1 : List Int) : Bool := if bigOk b0 zs0 && bigOk b1 zs1 then mkB (!(b0 == b1)) (lowX (natI zs0) (natI zs1)) (lowD (natI zs0) (natI zs1)) else false
def ratMakeZ (b0 : Bool) (zs0 : List Int) (b1 : Bool) (zs1 : List Int) : List Int := if bigOk b0 zs0 && bigOk b1 zs1 then mkZ (lowX (natI zs0) (natI zs1)) (lowD (natI zs0) (natI zs1)) else []
def ratMakeD (b0 : Bool) (zs0 : List Int) (b1 : Bool) (zs1 : List Int) : List Int := if bigOk b0 zs0 && bigOk b1 zs1 then mkD (lowX (natI zs0) (natI zs1)) (lowD (natI zs0) (natI zs1)) else []
theorem ratMakeZ_len (b0 : Bool) (zs0 : List Int) (b1 : Bool) (zs1 : List Int) : (ratMakeZ b0 zs0 b1 zs1).length ≤ 1000 := by
  unfold ratMakeZ; split
  · exact Nat.le_trans (mkZ_len _ _) (by omega)
  · simp
theorem ratMakeD_len (b0 : Bool) (zs0 : List Int) (b1 : Bool) (zs1 : List Int) : (ratMakeD b0 zs0 b1 zs1).length ≤ 1000 := by
  unfold ratMakeD; split
  · exact Nat.le_trans (mkD_len _ _) (by omega)
  · simp
theorem ratMake_no {b0 : Bool} {zs0 : List Int} {b1 : Bool} {zs1 : List Int} (h : bigOk b0 zs0 = false ∨ bigOk b1 zs1 = false) : ratMakeB b0 zs0 b1 zs1 = false ∧ ratMakeZ b0 zs0 b1 zs1 = [] ∧ ratMakeD b0 zs0 b1 zs1 = [] := by
  unfold ratMakeB ratMakeZ ratMakeD; rcases h with h | h <;> rw [h] <;> simp
theorem ratMake_yes {b0 : Bool} {x : Nat} {b1 : Bool} {y : Nat} (h0 : bigOk b0 (limI x) = true) (h1 : bigOk b1 (limI y) = true) : ratMakeB b0 (limI x) b1 (limI y) = mkB (!(b0 == b1)) (lowX x y) (lowD x y) ∧ ratMakeZ b0 (limI x) b1 (limI y) = mkZ (lowX x y) (lowD x y) ∧ ratMakeD b0 (limI x) b1 (limI y) = mkD (lowX x y) (lowD x y) := by
  unfold ratMakeB ratMakeZ ratMakeD; rw [h0, h1, natI_limI, natI_limI]; exact ⟨rfl, rfl, rfl⟩
theorem spec_bigOkR (b : Bool) (v : Value) (zs : List Int) (q : Bool) (w : World) (h : RowOf iV w v zs) (hq : bigOk b zs = q) :
    Calls Tryz.prog 55 #[.agg #[.bool b, v]] w fun r w' => r = .returned (.bool q) ∧ Below w.heap.size w w' := by rw [← hq]; exact spec_bigOkB b v zs w h
theorem impl_bigOkR (b : Bool) (v : Value) (zs : List Int) (q : Bool) (w : World) (h : RowOf iV w v zs) (hq : bigOk b zs = q) :
    Calls Tryz.prog 75 #[.agg #[.bool b, v]] w fun r w' => r = .returned (.bool q) ∧ Below w.heap.size w w' := by rw [← hq]; exact impl_bigOkB b v zs w h


end Go.Proofs.YtojklmckjebplaaGreat
