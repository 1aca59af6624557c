/- Transpose of the program; the contracts of IsVector and clone open. -/
import Derived.Test.YtlepgkkpopjgoaaGreatXMatIget
import Derived.Test.YtlepgkkpopjgoaaGreatXVecOk
import Derived.BigRegion
import Derived.Stop.RegionWithIn
import Derived.Deep.RegionHeld3
namespace Go.Proofs.YtlepgkkpopjgoaaGreat
open Go.RowKit Go.WideShapes Go.ChangeShapes Go.Shelf
set_option linter.unusedVariables false
set_option linter.unusedSimpArgs false
attribute [local go_sem] Oper.semAt_some
theorem b3_own {β : Type} (B : Nat) (t : TypeId) (x y z : Value) : Own (fun (_ : β) W => B3 W B t x y z) := fun s X Y row hs hg hrow =>
 hs.keptK (Kept.of_grown hg) (fun e => by
  obtain ⟨o, ho, hc⟩ := hrow B e
  rw [show X.heap[B]? = _ from hs] at ho; cases ho; cases hc)
theorem OwnV.isCells {w : World} {B : Nat} {v : Value} {L : List Fr} {xs : List (Value × Value)} (h : OwnV w B v L xs) : ∀ k, OnV v xs k → ∃ o : Obj, w.heap[k]? = some o ∧ o.isCells = true := by
 have key : ∀ (u : Value) (l : List Int) (k : Nat), OwnI w B u l → u.ownBlock = some k → ∃ o : Obj, w.heap[k]? = some o ∧ o.isCells = true := by
  intro u l k ho e
  rcases ho.2 with ⟨rfl, _⟩ | ⟨g1, cap1, cur1, rfl, _, hg1, _⟩
  ·simp [Value.ownBlock] at e
  ·have e1 : g1 = k := by simpa [Value.ownBlock] using e
   subst e1
   exact ⟨_, hg1, rfl⟩
 rintro k (e | ⟨p, hp, e⟩)
 ·rcases h.row.2 with ⟨rfl, _⟩ | ⟨g1, cap1, cur1, rfl, _, hg1, _⟩
  ·simp [Value.ownBlock] at e
  ·have e1 : g1 = k := by simpa [Value.ownBlock] using e
   subst e1
   exact ⟨_, hg1, rfl⟩
 ·obtain ⟨i, hi, rfl⟩ := List.getElem_of_mem hp
  have hr := h.each i (by have := h.len; omega) hi
  rcases e with e | e
  ·exact key _ _ k hr.1 e
  ·exact key _ _ k hr.2.1 e
theorem OwnV.turn {X Y : World} {B : Nat} {v : Value} {L : List Fr} {xs : List (Value × Value)} {row : Option Nat} (h : OwnV X B v L xs) (hg : X.grownBy Y row) (hrow : ∀ r, row = some r → ∃ o : Obj, X.heap[r]? = some o ∧ o.isCells = false) : OwnV Y B v L xs :=
 h.kept (Kept.of_grown hg) (fun k hk e => by
  obtain ⟨o, ho, hc⟩ := hrow k e
  obtain ⟨o', ho', hc'⟩ := h.isCells k hk
  rw [ho] at ho'; injection ho' with e1; subst e1; rw [hc] at hc'; cases hc')
theorem b3_shut {W : World} {B D : Nat} {t : TypeId} {x y z : Value} (h : B3 W B t x y z) (hK : W.heap[D]? = some (.deferred (some []))) : B3 (W.putObj D (.deferred none)) B t x y z :=
 h.keptK (Kept.of_grown (grownBy_putObj' W D (.deferred none))) (fun e => by
  injection e with e; subst e
  rw [show W.heap[D]? = _ from h] at hK; cases hK)
theorem ownV_shut {W : World} {B D : Nat} {v : Value} {L : List Fr} {xs : List (Value × Value)} (h : OwnV W B v L xs) (hK : W.heap[D]? = some (.deferred (some []))) : OwnV (W.putObj D (.deferred none)) B v L xs :=
 h.turn (grownBy_putObj' W D (.deferred none)) (fun r e => by cases e; exact ⟨_, hK, rfl⟩)
end Go.Proofs.YtlepgkkpopjgoaaGreat
