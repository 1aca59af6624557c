/- Totals: the lemmas. -/
import Derived.Test.YtgoonbjhfbnaiaaRatOps
import Derived.Deep.RegionWith
namespace Go.Proofs.Ytgoonbjhfbnaiaa
open Go.RowKit Go.WideShapes Go.ChangeShapes
set_option linter.unusedVariables false
set_option linter.unusedSimpArgs false

/-- a row of limbs lies in no block of a sign and two rows -/
theorem rowOf_rx {w : World} {p j : Nat} {t : TypeId} {b : Bool} {a a2 : Option Addr} {n c n2 c2 : Nat} {v y : Value} {l : List Int} (h : RowOf iV w v l) (D : Rx w p t b (.slice a n c) (.slice a2 n2 c2)) : RowOf iV (w.setCell ⟨p, j, none⟩ y) v l := by
  obtain ⟨a', c', e, h1, h2, h3⟩ := h
  refine ⟨a', c', e, h1, h2, fun i hi => ?_⟩
  obtain ⟨b', o, e1, e2⟩ := h3 i hi
  refine ⟨b', o, e1, ?_⟩
  by_cases hb : b' = p
  · subst hb
    have D' : w.heap[b']? = some (.cells #[.bool b, .slice a n c, .slice a2 n2 c2] t (0, 0)) := D
    have hk : o + i = 0 ∨ o + i = 1 ∨ o + i = 2 ∨ 3 ≤ o + i := by omega
    rcases hk with hk | hk | hk | hk
    · rw [hk] at e2; simp [World.cell?, D', iV] at e2
    · rw [hk] at e2; simp [World.cell?, D', iV] at e2
    · rw [hk] at e2; simp [World.cell?, D', iV] at e2
    · have : w.cell? ⟨b', o + i, none⟩ = none := by
        simp [World.cell?, D']
        omega
      rw [this] at e2; cases e2
  · exact (World.cell?_of_block (a := ⟨b', o + i, none⟩) (Below.heap_setCell _ ⟨p, j, none⟩ y b' hb)).trans e2
theorem setCell3_grown (w : World) (p : Nat) (x y z : Value) : w.grownBy (((w.setCell ⟨p, 0, none⟩ x).setCell ⟨p, 1, none⟩ y).setCell ⟨p, 2, none⟩ z) (some p) :=
  grownBy_trans (grownBy_trans (setCell_grown w p 0 x) (setCell_grown _ p 1 y)) (setCell_grown _ p 2 z)
theorem grownBy_set3 {w wn : World} {p : Nat} (hB : Below w.heap.size w wn) (x y z : Value) : w.grownBy (((wn.setCell ⟨p, 0, none⟩ x).setCell ⟨p, 1, none⟩ y).setCell ⟨p, 2, none⟩ z) (some p) :=
  grownBy_trans (grownBy_of_below hB _) (setCell3_grown _ _ _ _ _)

end Go.Proofs.Ytgoonbjhfbnaiaa
