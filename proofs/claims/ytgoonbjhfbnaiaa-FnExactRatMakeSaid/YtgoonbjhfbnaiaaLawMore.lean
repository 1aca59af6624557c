/- What the laws over signed numbers with a fraction as their answer need. -/
import Derived.Test.YtgoonbjhfbnaiaaRat
namespace Go.Proofs.Ytgoonbjhfbnaiaa
open Go.RowKit Go.WideShapes Go.ChangeShapes
theorem OwnR.other1 {w w' : World} {B : Nat} {v d : Value} {zs ds : List Int} {row : Option Nat} (h : OwnR w B v zs d ds) (hg : w.grownBy w' row) (hne : ∀ g g', (v.ownBlock = some g ∨ d.ownBlock = some g) → row = some g' → g ≠ g') : OwnR w' B v zs d ds :=
  ⟨h.1.other hg (fun g g' x y => hne g g' (.inl x) y), h.2.1.other hg (fun g g' x y => hne g g' (.inr x) y), h.2.2⟩
theorem Bx.marked2 {w w' : World} {p : Nat} {t : TypeId} {b : Bool} {x v d : Value} {zs ds : List Int} {B : Nat} (h : Bx w p t b x) (ho : OwnR w B v zs d ds) (ht : t ≠ 3) (hg : Grown2 w w' v d) : Bx w' p t b x := by
  obtain ⟨w1, g1, g2⟩ := hg
  exact (h.marked ho.1 ht g1).marked (ho.2.1.other g1 (fun g g' e1 e2 => (ho.2.2 g' g e2 e1).symm)) ht g2
end Go.Proofs.Ytgoonbjhfbnaiaa
