/- BigIntCmp of the program and of the model; its exact law. -/
import Derived.Test.YtojklmckjebplaaSigned
namespace Go.Proofs.Ytojklmckjebplaa
open Go.RowKit

def sgCmp (b0 : Bool) (x : Nat) (b1 : Bool) (y : Nat) : Int := if b0 then (if b1 then cmpN y x else -1) else (if b1 then 1 else cmpN x y)
theorem sgCmp_ff (x y : Nat) : sgCmp false x false y = cmpN x y := rfl
theorem sgCmp_tt (x y : Nat) : sgCmp true x true y = cmpN y x := rfl
theorem sgCmp_tf (x y : Nat) : sgCmp true x false y = -1 := rfl
theorem sgCmp_ft (x y : Nat) : sgCmp false x true y = 1 := rfl
def bigCmp (b0 : Bool) (zs0 : List Int) (b1 : Bool) (zs1 : List Int) : Int := if bigOk b0 zs0 && bigOk b1 zs1 then sgCmp b0 (natI zs0) b1 (natI zs1) else 0
theorem bigCmp_yes {b0 b1 : Bool} {x y : Nat} (h0 : bigOk b0 (limI x) = true) (h1 : bigOk b1 (limI y) = true) : bigCmp b0 (limI x) b1 (limI y) = sgCmp b0 x b1 y := by unfold bigCmp; rw [h0, h1, natI_limI, natI_limI]; rfl
theorem bigCmp_no {b0 b1 : Bool} {zs0 zs1 : List Int} (h : bigOk b0 zs0 = false ∨ bigOk b1 zs1 = false) : bigCmp b0 zs0 b1 zs1 = 0 := by unfold bigCmp; rcases h with h | h <;> rw [h] <;> simp

end Go.Proofs.Ytojklmckjebplaa
