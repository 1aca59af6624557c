/- A vector of the call's own appended to another. -/
import Derived.Test.YtojklmckjebplaaMatTr
namespace Go.Proofs.Ytojklmckjebplaa
open Go.RowKit Go.WideShapes Go.ChangeShapes
set_option linter.unusedVariables false
set_option linter.unusedSimpArgs false
theorem flat_app : ∀ (L : List Fr) (xs : List (Value × Value)) (M : List Fr) (ys : List (Value × Value)), xs.length = L.length → flat (L ++ M) (xs ++ ys) = flat L xs ++ flat M ys
  | [], [], _, _, _ => rfl
  | x :: L, q :: xs, M, ys, h => by simp only [List.cons_append, flat, flat_app L xs M ys (by simpa using h)]
theorem flat_one : ∀ (L : List Fr) (xs : List (Value × Value)), (∀ p ∈ xs, p.1.oneCell' = true ∧ p.2.oneCell' = true) → ∀ u ∈ flat L xs, u.oneCell' = true
  | x :: L, q :: xs, h, u, hu => by
    simp only [flat, List.mem_cons] at hu
    rcases hu with rfl | rfl | rfl | hu
    · rfl
    · exact (h q (List.mem_cons_self ..)).1
    · exact (h q (List.mem_cons_self ..)).2
    · exact flat_one L xs (fun p hp => h p (List.mem_cons_of_mem _ hp)) u hu
  | [], _, _, u, hu => by simp [flat] at hu
  | _ :: _, [], _, u, hu => by simp [flat] at hu
theorem OwnV.one {w : World} {B : Nat} {v : Value} {L : List Fr} {xs : List (Value × Value)} (h : OwnV w B v L xs) : ∀ u ∈ flat L xs, u.oneCell' = true :=
  flat_one L xs (fun p hp => by
    obtain ⟨i, hi, rfl⟩ := List.getElem_of_mem hp
    obtain ⟨a, c, e, f, h1, h2⟩ := (h.each i (by have := h.len; omega) hi).slices
    rw [h1, h2]; exact ⟨rfl, rfl⟩)
theorem OwnV.append {w w' : World} {B : Nat} {v v' u : Value} {L M : List Fr} {xs ys : List (Value × Value)} (h : OwnV w B v L xs) (h2 : OwnV w B u M ys)
    (hne : ∀ i (hi : i < xs.length) j (hj : j < ys.length) g g', ((xs[i]'hi).1.ownBlock = some g ∨ (xs[i]'hi).2.ownBlock = some g) → ((ys[j]'hj).1.ownBlock = some g' ∨ (ys[j]'hj).2.ownBlock = some g') → g ≠ g')
    (hnr : ∀ j (hj : j < ys.length) g, ((ys[j]'hj).1.ownBlock = some g ∨ (ys[j]'hj).2.ownBlock = some g) → v.ownBlock ≠ some g)
    (hg : w.grownBy w' v.ownBlock) (hr : w'.ownsRow B 42 3 v' (L.length + M.length) (flat L xs ++ flat M ys)) : OwnV w' B v' (L ++ M) (xs ++ ys) := by
  have hl := h.len
  have hl2 := h2.len
  refine ⟨by simp [hl, hl2], ?_, ?_, ?_⟩
  · rw [flat_app L xs M ys hl, List.length_append]; exact hr
  · intro i hi hi'
    by_cases hlt : i < L.length
    · have hlt' : i < xs.length := by omega
      simp only [List.getElem_append_left hlt, List.getElem_append_left hlt']
      exact (h.each i hlt hlt').kept (Kept.of_grown hg) (fun g e => h.ne_row i hlt' g e)
    · have h3 : i - L.length < M.length := by simp at hi; omega
      have h4 : i - xs.length < ys.length := by omega
      have e2 : (xs ++ ys)[i]'hi' = ys[i - xs.length]'h4 := List.getElem_append_right (by omega)
      have e3 : (L ++ M)[i]'hi = M[i - L.length]'h3 := List.getElem_append_right (by omega)
      rw [e2, e3]
      have := (h2.each (i - L.length) h3 (by omega)).kept (Kept.of_grown hg) (fun g e => hnr _ _ g e)
      simpa only [hl] using this
  · intro i j hi hj hij g g' e1 e2
    simp only [List.length_append] at hi hj
    by_cases h1 : i < xs.length
    · simp only [List.getElem_append_left h1] at e1
      by_cases h2' : j < xs.length
      · simp only [List.getElem_append_left h2'] at e2
        exact h.apart i j h1 h2' hij g g' e1 e2
      · rw [List.getElem_append_right (by omega)] at e2
        exact hne i h1 _ (by omega) g g' e1 e2
    · rw [List.getElem_append_right (by omega)] at e1
      by_cases h2' : j < xs.length
      · simp only [List.getElem_append_left h2'] at e2
        exact (hne j h2' _ (by omega) g' g e2 e1).symm
      · rw [List.getElem_append_right (by omega)] at e2
        exact h2.apart _ _ (by omega) (by omega) (by omega) g g' e1 e2

set_option maxRecDepth 100000 in
/-- append(out, list...) in a region that draws its order: the list holds an element at least -/
theorem step_append_rats {ops : Array Oper} {o : Oper} {a : Act} {K : Act → World → Prop} {Q : Exit → Act → World → Prop} {E : Prop} {w : World} (hgd : o.guard = none) (s x : Operand)
    (ho : o.op = .call { callee := .builtin .append, args := #[s, x], argTypes := #[23, 23] })
    (B : Nat) (v : Value) (L : List Fr) (xs : List (Value × Value)) (hs : a.eval s = v) (hown : OwnV w B v L xs) (hL : L.length ≤ 100000) (hB : B ≤ w.heap.size)
    (g m c : Nat) (hx : a.eval x = .slice (some ⟨g, 0, none⟩) m c) (M : List Fr) (ys : List (Value × Value)) (h2 : OwnV w B (.slice (some ⟨g, 0, none⟩) m c) M ys) (hm : 0 < m) (hm2 : m ≤ 1000)
    (hne : ∀ i (hi : i < xs.length) j (hj : j < ys.length) r r', ((xs[i]'hi).1.ownBlock = some r ∨ (xs[i]'hi).2.ownBlock = some r) → ((ys[j]'hj).1.ownBlock = some r' ∨ (ys[j]'hj).2.ownBlock = some r') → r ≠ r')
    (hnr : ∀ j (hj : j < ys.length) r, ((ys[j]'hj).1.ownBlock = some r ∨ (ys[j]'hj).2.ownBlock = some r) → v.ownBlock ≠ some r)
    (h : ∀ v' w', OwnV w' B v' (L ++ M) (xs ++ ys) → w.grownBy w' v.ownBlock → (∀ k, v'.ownBlock = some k → v.ownBlock = some k ∨ w.heap.size ≤ k) → K (a.put o.dst v') w') :
    if Region.wanted o (yielded ops a.tmps) = true then Oper.wp Try.prog o a w K Q else E := by
  obtain ⟨i0, hi, hz0, hz1, hz2⟩ := info_parts info_rat
  have hc := h2.count
  refine Go.step_append_lies w hgd s x 23 ho B 42 i0 _ 3 56 Try.underlying23 hi hz0 hz1 hz2 rfl (by decide) v L.length (flat L xs) hs hown.row ⟨g, 0, none⟩ m c
    (flat M ys) hx (by rw [flat_len M ys h2.len, hc]) (fun j u hj => by
      have hlt := (List.getElem?_eq_some_iff.1 hj).1
      rw [flat_len M ys h2.len] at hlt
      have hrow := h2.row
      rw [hc] at hrow
      have := hrow.cellAt j (by omega)
      rw [show (⟨g, 0, none⟩ : Addr).add j = ⟨g, j, none⟩ by simp [Addr.add]; omega]
      exact this.trans hj) h2.one hm (by unfold maxLen; omega) (by omega) hB w.heap.size rfl ?_
  intro g' cap w' hr hg hgg _
  exact h _ w' (hown.append h2 hne hnr hg (by rw [hc]; exact hr)) hg (fun k hk => by
    have e : g' = k := by simpa [Value.ownBlock] using hk
    subst e
    rcases hgg with e | e
    · exact .inl e
    · exact .inr (by omega))

set_option maxRecDepth 100000 in
/-- the same in a region that keeps its order; the list may be empty -/
theorem append_rats {ops : Array Oper} {rest : List Oper} {o : Oper} {a : Act} {Q : Exit → Act → World → Prop} {w : World} (hgd : o.guard = none) (s x : Operand)
    (ho : o.op = .call { callee := .builtin .append, args := #[s, x], argTypes := #[23, 23] })
    (B : Nat) (v : Value) (L : List Fr) (xs : List (Value × Value)) (hs : a.eval s = v) (hown : OwnV w B v L xs) (hL : L.length ≤ 100000) (hB : B ≤ w.heap.size)
    (g m c : Nat) (hx : a.eval x = .slice (some ⟨g, 0, none⟩) m c) (M : List Fr) (ys : List (Value × Value)) (h2 : OwnV w B (.slice (some ⟨g, 0, none⟩) m c) M ys) (hm2 : m ≤ 1000)
    (hne : ∀ i (hi : i < xs.length) j (hj : j < ys.length) r r', ((xs[i]'hi).1.ownBlock = some r ∨ (xs[i]'hi).2.ownBlock = some r) → ((ys[j]'hj).1.ownBlock = some r' ∨ (ys[j]'hj).2.ownBlock = some r') → r ≠ r')
    (hnr : ∀ j (hj : j < ys.length) r, ((ys[j]'hj).1.ownBlock = some r ∨ (ys[j]'hj).2.ownBlock = some r) → v.ownBlock ≠ some r)
    (h : ∀ v' w', OwnV w' B v' (L ++ M) (xs ++ ys) → w.grownBy w' v.ownBlock → wpList Try.prog ops Q rest (a.put o.dst v') w') : wpList Try.prog ops Q (o :: rest) a w := by
  obtain ⟨i0, hi, hz0, hz1, hz2⟩ := info_parts info_rat
  have hc := h2.count
  refine Go.wpList_append_own w hgd s x 23 ho B 42 i0 _ 3 56 Try.underlying23 hi hz0 hz1 hz2 rfl (by decide) v L.length (flat L xs) hs hown.row ⟨g, 0, none⟩ m c
    (flat M ys) hx (by rw [flat_len M ys h2.len, hc]) (fun j u hj => by
      have hlt := (List.getElem?_eq_some_iff.1 hj).1
      rw [flat_len M ys h2.len] at hlt
      have hrow := h2.row
      rw [hc] at hrow
      have := hrow.cellAt j (by omega)
      rw [show (⟨g, 0, none⟩ : Addr).add j = ⟨g, j, none⟩ by simp [Addr.add]; omega]
      exact this.trans hj) h2.one (by unfold maxLen; omega) (by omega) hB ?_
  intro v' w' hr hg _
  exact h v' w' (hown.append h2 hne hnr hg (by rw [hc]; exact hr)) hg
end Go.Proofs.Ytojklmckjebplaa
