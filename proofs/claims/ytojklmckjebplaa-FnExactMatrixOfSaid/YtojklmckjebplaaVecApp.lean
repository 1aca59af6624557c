/- A fraction appended to a vector of the call's own. -/
import Derived.Test.YtojklmckjebplaaVecs
import Derived.Deep.AppendLies
import Derived.Deep.CutBlock
import Derived.Deep.CutRange
import Derived.Deep.RegionHeld3
namespace Go.Proofs.Ytojklmckjebplaa
open Go.RowKit Go.WideShapes Go.ChangeShapes
set_option linter.unusedVariables false
set_option maxRecDepth 100000 in
/-- append(out, r): the element lies in a block of its own first -/
theorem step_append_rat {ops : Array Oper} {o : Oper} {a : Act} {K : Act → World → Prop} {Q : Exit → Act → World → Prop} {E : Prop} {w : World} (hgd : o.guard = none) (s x : Operand)
    (ho : o.op = .call { callee := .builtin .append, args := #[s, x], argTypes := #[23, 23] })
    (B : Nat) (v : Value) (L : List Fr) (xs : List (Value × Value)) (hs : a.eval s = v) (hown : OwnV w B v L xs) (hL : L.length ≤ 100000) (hB : B ≤ w.heap.size)
    (g c : Nat) (hx : a.eval x = .slice (some ⟨g, 0, none⟩) 1 c) (f : Fr) (p q : Value) (hblk : w.heap[g]? = some (.cells #[.bool f.neg, p, q] 42 (0, 0))) (hf : OwnR w B p f.mag q f.den)
    (hne : ∀ i (hi : i < xs.length) r r', ((xs[i]'hi).1.ownBlock = some r ∨ (xs[i]'hi).2.ownBlock = some r) → (p.ownBlock = some r' ∨ q.ownBlock = some r') → r ≠ r')
    (hnr : ∀ r, p.ownBlock = some r ∨ q.ownBlock = some r → v.ownBlock ≠ some r)
    (h : ∀ v' w', OwnV w' B v' (L ++ [f]) (xs ++ [(p, q)]) → w.grownBy w' v.ownBlock → (∀ k, v'.ownBlock = some k → v.ownBlock = some k ∨ w.heap.size ≤ k) → K (a.put o.dst v') w') :
    if Region.wanted o (yielded ops a.tmps) = true then Oper.wp Try.prog o a w K Q else E := by
  obtain ⟨i0, hi, hz0, hz1, hz2⟩ := info_parts info_rat
  obtain ⟨a1, c1, a2, c2, rfl, rfl⟩ := hf.slices
  refine Go.step_append_lies w hgd s x 23 ho B 42 i0 _ 3 56 Try.underlying23 hi hz0 hz1 hz2 rfl (by decide) v L.length (flat L xs) hs hown.row ⟨g, 0, none⟩ 1 c
    [.bool f.neg, .slice a1 f.mag.length c1, .slice a2 f.den.length c2] hx rfl (World.news_of_block hblk) (by intro u hu; simp at hu; rcases hu with rfl | rfl | rfl <;> rfl) (by decide) (by unfold maxLen; omega) (by omega) hB w.heap.size rfl ?_
  intro g' cap w' hr hg hgg _
  exact h _ w' (hown.snoc hf hne hnr hg hr) hg (fun k hk => by
    have e : g' = k := by simpa [Value.ownBlock] using hk
    subst e
    rcases hgg with e | e
    · exact .inl e
    · exact .inr (by omega))

set_option maxRecDepth 100000 in
/-- the same in a region that keeps its order -/
theorem append_rat {ops : Array Oper} {rest : List Oper} {o : Oper} {a : Act} {Q : Exit → Act → World → Prop} {w : World} (hgd : o.guard = none) (s x : Operand)
    (ho : o.op = .call { callee := .builtin .append, args := #[s, x], argTypes := #[23, 23] })
    (B : Nat) (v : Value) (L : List Fr) (xs : List (Value × Value)) (hs : a.eval s = v) (hown : OwnV w B v L xs) (hL : L.length ≤ 100000) (hB : B ≤ w.heap.size)
    (g c : Nat) (hx : a.eval x = .slice (some ⟨g, 0, none⟩) 1 c) (f : Fr) (p q : Value) (hblk : w.heap[g]? = some (.cells #[.bool f.neg, p, q] 42 (0, 0))) (hf : OwnR w B p f.mag q f.den)
    (hne : ∀ i (hi : i < xs.length) r r', ((xs[i]'hi).1.ownBlock = some r ∨ (xs[i]'hi).2.ownBlock = some r) → (p.ownBlock = some r' ∨ q.ownBlock = some r') → r ≠ r')
    (hnr : ∀ r, p.ownBlock = some r ∨ q.ownBlock = some r → v.ownBlock ≠ some r)
    (h : ∀ v' w', OwnV w' B v' (L ++ [f]) (xs ++ [(p, q)]) → w.grownBy w' v.ownBlock → (∀ k, v'.ownBlock = some k → v.ownBlock = some k ∨ w.heap.size ≤ k) → wpList Try.prog ops Q rest (a.put o.dst v') w') : wpList Try.prog ops Q (o :: rest) a w := by
  obtain ⟨i0, hi, hz0, hz1, hz2⟩ := info_parts info_rat
  obtain ⟨a1, c1, a2, c2, rfl, rfl⟩ := hf.slices
  refine Go.wpList_append_lies w hgd s x 23 ho B 42 i0 _ 3 56 Try.underlying23 hi hz0 hz1 hz2 rfl (by decide) v L.length (flat L xs) hs hown.row ⟨g, 0, none⟩ 1 c
    [.bool f.neg, .slice a1 f.mag.length c1, .slice a2 f.den.length c2] hx rfl (World.news_of_block hblk) (by intro u hu; simp at hu; rcases hu with rfl | rfl | rfl <;> rfl) (by decide) (by unfold maxLen; omega) (by omega) hB w.heap.size rfl ?_
  intro g' cap w' hr hg hgg _
  exact h _ w' (hown.snoc hf hne hnr hg hr) hg (fun k hk => by
    have e : g' = k := by simpa [Value.ownBlock] using hk
    subst e
    rcases hgg with e | e
    · exact .inl e
    · exact .inr (by omega))


end Go.Proofs.Ytojklmckjebplaa
