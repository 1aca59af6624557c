/- The program's elimination behind changes that are no cells; rows cleared one by one. -/
import Derived.Test.YtlepgkkpopjgoaaGreatZElPro
import Derived.Test.YtlepgkkpopjgoaaGreatZElStep
import Derived.Test.YtlepgkkpopjgoaaGreatZMatSeq
namespace Go.Proofs.YtlepgkkpopjgoaaGreat
open Go.RowKit Go.WideShapes Go.ChangeShapes Go.Shelf
set_option linter.unusedVariables false
set_option linter.unusedSimpArgs false
section
variable {X Y : World} {row : Option Nat}
theorem cell_turn (hg : X.grownBy Y row) (hr : ∀ r, row = some r → ∃ o : Obj, X.heap[r]? = some o ∧ o.isCells = false) {a : Addr} {v : Value} (h : X.cell? a = some v) : Y.cell? a = some v := by
  refine (World.cell?_of_block (hg.block a.block (World.block_lt_of_cell? X a h) ?_)).trans h
  intro e
  obtain ⟨o, ho, hc⟩ := hr a.block e.symm
  unfold World.cell? at h
  rw [ho] at h
  cases o <;> simp [Obj.isCells] at hc h
theorem rowOf_turn (hg : X.grownBy Y row) (hr : ∀ r, row = some r → ∃ o : Obj, X.heap[r]? = some o ∧ o.isCells = false) {v : Value} {l : List Int} (h : RowOf iV X v l) : RowOf iV Y v l := by
  obtain ⟨a, cap, rfl, h1, h2, h3⟩ := h
  refine ⟨a, cap, rfl, h1, h2, fun i hi => ?_⟩
  obtain ⟨b, o, rfl, hc⟩ := h3 i hi
  exact ⟨b, o, rfl, cell_turn hg hr hc⟩
theorem owns_cells {B : Nat} {t : TypeId} {s : Nat} {v : Value} {n : Nat} {l : List Value} (h : X.ownsRow B t s v n l) : ∀ k, v.ownBlock = some k → ∃ o : Obj, X.heap[k]? = some o ∧ o.isCells = true := by
  intro k e
  rcases h.2 with ⟨rfl, _⟩ | ⟨g1, cap1, cur1, rfl, _, hg1, _⟩
  · simp [Value.ownBlock] at e
  · have e1 : g1 = k := by simpa [Value.ownBlock] using e
    subst e1
    exact ⟨_, hg1, rfl⟩
theorem not_cells (hr : ∀ r, row = some r → ∃ o : Obj, X.heap[r]? = some o ∧ o.isCells = false) {k : Nat} (h : ∃ o : Obj, X.heap[k]? = some o ∧ o.isCells = true) : row ≠ some k := fun e => by
  obtain ⟨o, ho, hc⟩ := hr k e
  obtain ⟨o', ho', hc'⟩ := h
  rw [ho] at ho'; injection ho' with e1; subst e1; rw [hc] at hc'; cases hc'
theorem OwnV.cellsB {B : Nat} {v : Value} {L : List Fr} {xs : List (Value × Value)} (h : OwnV X B v L xs) : ∀ k, OnV v xs k → ∃ o : Obj, X.heap[k]? = some o ∧ o.isCells = true := by
  rintro k (e | ⟨p, hp, e⟩)
  · exact owns_cells h.row k e
  · obtain ⟨i, hi, rfl⟩ := List.getElem_of_mem hp
    have hr := h.each i (by have := h.len; omega) hi
    rcases e with e | e
    · exact owns_cells hr.1 k e
    · exact owns_cells hr.2.1 k e
theorem ElS.turn {B : Nat} {v : Value} {R C : Nat} {e : El} {pv fv : Value} {xs ps : List (Value × Value)} (h : ElS X B v R C e pv fv xs ps) (hg : X.grownBy Y row) (hr : ∀ r, row = some r → ∃ o : Obj, X.heap[r]? = some o ∧ o.isCells = false) : ElS Y B v R C e pv fv xs ps := by
  have hk := Kept.of_grown hg
  exact ⟨h.V.kept hk (fun k hk1 e9 => not_cells hr (h.V.cellsB k hk1) e9), h.P.kept hk (fun k hk1 e9 => not_cells hr (owns_cells h.P k hk1) e9), rowV_kept h.F hk (fun k hk1 e9 => not_cells hr (owns_cells h.F k hk1) e9), h.plen,
    fun i hi hi' => ⟨rowOf_turn hg hr (h.fr i hi hi').1, rowOf_turn hg hr (h.fr i hi hi').2⟩, fun q hq k e9 => Nat.lt_of_lt_of_le (h.lt q hq k e9) hg.size, h.vp, h.vf, h.pf, h.qv⟩
theorem PrS.turn {B p : Nat} {a : Option Addr} {N cap R C : Nat} {e : El} {pv fv : Value} {xs ps : List (Value × Value)} (h : PrS X B p a N cap R C e pv fv xs ps) (hg : X.grownBy Y row) (hr : ∀ r, row = some r → ∃ o : Obj, X.heap[r]? = some o ∧ o.isCells = false) : PrS Y B p a N cap R C e pv fv xs ps :=
  ⟨h.D.keptK (Kept.of_grown hg) (fun e9 => not_cells hr ⟨_, h.D, rfl⟩ e9), h.S.turn hg hr, h.off, h.hB⟩
theorem PrS.shut {B p D : Nat} {a : Option Addr} {N cap R C : Nat} {e : El} {pv fv : Value} {xs ps : List (Value × Value)} (h : PrS X B p a N cap R C e pv fv xs ps) (hK : X.heap[D]? = some (.deferred (some []))) : PrS (X.putObj D (.deferred none)) B p a N cap R C e pv fv xs ps :=
  h.turn (grownBy_putObj' X D (.deferred none)) (fun r e => by cases e; exact ⟨_, hK, rfl⟩)
end
theorem Kept.others2 {W W' : World} {g : Nat} {o : Obj} (h : Kept (fun k => k = g) W W') (hg : W.heap[g]? = some o) (hc : o.isCells = true) : KeepsOthers W W' :=
  ⟨h.size, fun k o' hk ho => (h.block k (Array.getElem?_eq_some_iff.1 hk).1 (fun e => by subst e; rw [hg] at hk; injection hk with e1; subst e1; rw [hc] at ho; cases ho)).trans hk⟩
/-- row a cleared, in any matrix -/
def rowC (n k a : Nat) (g : Mx) : Mx := fun r b => if r = a ∧ a ≠ n ∧ k ≤ b then clE g n k r b else g r b
theorem rowC_self (n k : Nat) (g : Mx) : rowC n k n g = g := by
  funext r b
  unfold rowC
  rw [if_neg (by omega)]
theorem rowC_spl {R C n k a : Nat} {g : Mx} (hk : k < C) (ha : a < R) (han : a ≠ n) : spl (tabM R C g) (a * C + k) ((List.range (C - k)).map (fun j => clE g n k a (k + j))) = tabM R C (rowC n k a g) := by
  refine spl_tab ha hk (by simp) (fun j hj => ?_) (fun r b hr hb h => ?_)
  · simp only [List.getElem_map, List.getElem_range]
    unfold rowC
    rw [if_pos ⟨rfl, han, by omega⟩]
  · unfold rowC
    rw [if_neg (fun h9 => h ⟨h9.1, h9.2.2⟩)]
theorem rowC_ok {R C n k a : Nat} {g : Mx} (hok : OkM R C g) (h : ∀ b, k ≤ b → b < C → okF (clE g n k a b) = true) : OkM R C (rowC n k a g) := fun r b hr hb => by
  unfold rowC
  split
  · next h9 => rw [h9.1]; exact h b h9.2.2 hb
  · exact hok r b hr hb
theorem rowC_clP {R C n k a : Nat} {g gp : Mx} (ha : a < R) (hn : n < R) (hk : k < C) (h : ∀ r b, r < R → b < C → gp r b = clP g n k a k r b) : ∀ r b, r < R → b < C → rowC n k a gp r b = clP g n k (a + 1) k r b := by
  intro r b hr hb
  unfold rowC
  by_cases h1 : r = a ∧ a ≠ n ∧ k ≤ b
  · rw [if_pos h1]
    obtain ⟨rfl, h2, h3⟩ := h1
    have e1 : gp r k = g r k := by rw [h r k hr hk, clP_start]
    have e2 : gp n b = g n b := by rw [h n b hn hb, clP_row]
    have e3 : gp r b = g r b := by rw [h r b hr hb, clP_start]
    have e4 : clP g n k (r + 1) k r b = clE g n k r b := by unfold clP; rw [if_pos ⟨h2, h3, by omega⟩]
    rw [e4]
    unfold clE
    rw [e1, e2, e3]
  · rw [if_neg h1, h r b hr hb]
    unfold clP
    by_cases h2 : r ≠ n ∧ k ≤ b ∧ (r < a ∨ (r = a ∧ b < k))
    · rw [if_pos h2, if_pos ⟨h2.1, h2.2.1, by omega⟩]
    · rw [if_neg h2, if_neg (by omega)]
end Go.Proofs.YtlepgkkpopjgoaaGreat
