/- The exact laws of SplitAny and SplitLines: the program's result is the model's, in memory of its own. -/
import Derived.Test.YtmjbnbabhgngpaaDoorSplit
namespace Go.Proofs.YtmjbnbabhgngpaaDoor
open Go.RowKit

theorem ownsRow_grown {w w' : World} {B : Nat} {e : TypeId} {size : Nat} {v : Value} {n : Nat} {xs : List Value} {row : Option Nat} (h : w.ownsRow B e size v n xs) (hg : w.grownBy w' row) (hne : ∀ g g', v.ownBlock = some g → row = some g' → g ≠ g') : w'.ownsRow B e size v n xs :=
  h.kept hg (by cases hv : v.ownBlock with
    | none => exact .inl rfl
    | some g => exact .inr (fun h => by cases row with
      | none => simp at h
      | some g' => exact hne g g' hv rfl (by simpa using h)))

end Go.Proofs.YtmjbnbabhgngpaaDoor
