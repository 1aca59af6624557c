/- An append onto a fresh empty row, as a step of a region that draws its order. -/
import Derived.Test.YtlepgkkpopjgoaaGreatZPre
import Derived.ArgAppend
namespace Go.Proofs.YtlepgkkpopjgoaaGreat
open Go.RowKit Go.WideShapes Go.ChangeShapes
set_option linter.unusedVariables false
set_option linter.unusedSimpArgs false

theorem append_empty_run {w : World} (T : TypeId) (hT : Tryz.prog.underlying T = some (.slice 3)) (ty : TypeId) (B c : Nat) (ax : Option Addr) (v : Value) (l : List Int) (hown : OwnI w B v l) : (Builtin.append_ #[T, T] ty #[v, .slice ax 0 c]).run Tryz.prog w = .ok v w := by
  obtain ⟨i0, hi, hz0, hz1, hz2⟩ := info_parts info_int
  rcases hown.2 with ⟨rfl, _⟩ | ⟨g, cap, cur, rfl, _, _, hnc, _⟩
  · cases ax <;> simp [Builtin.append_, run_underlying hT, sizeOf, typeInfo, hi, Builtin.lenOf, Builtin.firstCells, loadCells, loadCellsFrom]
  · cases ax <;> simp [Builtin.append_, run_underlying hT, sizeOf, typeInfo, hi, Builtin.lenOf, Builtin.firstCells, hnc, storeCells, loadCells, loadCellsFrom]
set_option maxRecDepth 100000 in
theorem step_append_fresh {ops : Array Oper} {o : Oper} {a : Act} {K : Act → World → Prop} {Q : Exit → Act → World → Prop} {E : Prop} {w : World} (hgd : o.guard = none) (s x : Operand) (T : TypeId) (hT : Tryz.prog.underlying T = some (.slice 3))
    (ho : o.op = .call { callee := .builtin .append, args := #[s, x], argTypes := #[T, T] })
    (g : Nat) (vx : Value) (l2 : List Int) (hs : a.eval s = .slice (some ⟨g, 0, none⟩) 0 0) (hown : OwnI w g (.slice (some ⟨g, 0, none⟩) 0 0) []) (hx : a.eval x = vx) (hr : RowOf iV w vx l2)
    (hn : l2.length ≤ 1099511627776)
    (h : ∀ v' w', OwnI w' g v' l2 → (∀ k, v'.ownBlock = some k → k = g ∨ w.heap.size ≤ k) → Below w.heap.size w w' → K (a.put o.dst v') w') :
    if Region.wanted o (yielded ops a.tmps) = true then Oper.wp Tryz.prog o a w K Q else E := by
  have hw : Region.wanted o (yielded ops a.tmps) = true := by simp [Region.wanted, hgd]
  rw [if_pos hw]
  obtain ⟨i0, hi, hz0, hz1, hz2⟩ := info_parts info_int
  obtain ⟨ax, c, rfl, hc, hm, hcell⟩ := hr
  cases l2 with
  | nil =>
    have hrun := append_empty_run (w := w) T hT o.type g c ax _ [] hown
    unfold Oper.wp
    simp only [List.length_nil] at hx
    simp [execOp, ho, resolve, invoke, builtin, hs, hx, hrun, Result.andThen]
    exact h _ w hown (fun k hk => .inl (by simpa [Value.ownBlock] using hk.symm)) (Below.refl _ _)
  | cons z r =>
    obtain ⟨b, o', e, _⟩ := hcell 0 (by simp)
    subst e
    obtain ⟨v', w', hrun, r1, r2⟩ := run_append_arg_grows (P := Tryz.prog) w T o.type 3 i0 (.int .i64 0) 1 8 hT hi hz0 hz1 hz2 rfl (by decide) ⟨g, 0, none⟩ 0 0 [] (by simp) (by simp) ⟨b, o', none⟩ (z :: r).length c ((z :: r).map iV) (by simp) (by
      intro j u hj
      obtain ⟨hjl, hje⟩ := List.getElem?_eq_some_iff.1 hj
      have hjl2 : j < (z :: r).length := by simpa using hjl
      obtain ⟨b2, o2, e, hx'⟩ := hcell j hjl2
      injection e with e
      injection e with e1 e2
      subst e1 e2
      rw [add_plain, hx', ← hje, List.getElem_map]) (by simp) (by unfold maxLen; omega) (by omega)
    simp only [List.length_cons] at hx hrun
    unfold Oper.wp
    simp [execOp, ho, resolve, invoke, builtin, hs, hx, hrun, Result.andThen]
    have hb : Below w.heap.size w w' := ⟨r2.os, r2.tape, r2.output, r2.size, fun i hi => r2.block i hi (by simp)⟩
    have ho2 : OwnI w' w.heap.size v' (z :: r) := by unfold OwnI; simpa using r1
    exact h v' w' (ho2.base (Nat.le_of_lt ((hown.lt g (by simp [Value.ownBlock])).2))) (fun k hk => .inr (ho2.lt k hk).1) hb

theorem size_drew (w : World) : w.drew.heap.size = w.heap.size := rfl
theorem lit_at (X : World) (g : Nat) (h : g = X.heap.size) : OwnI (X.alloc (.cells #[] 3)) g (.slice (some ⟨g, 0, none⟩) 0 0) [] := by
  subst h; exact OwnI.lit0 X
theorem lit_atd (X : World) (g : Nat) (h : g = X.heap.size) : OwnI (X.alloc (.cells #[] 3)).drew g (.slice (some ⟨g, 0, none⟩) 0 0) [] := lit_at X g h
theorem lit_atd2 (X : World) (o : Obj) (g : Nat) (h : g = X.heap.size) : OwnI ((X.alloc (.cells #[] 3)).alloc o).drew g (.slice (some ⟨g, 0, none⟩) 0 0) [] := (lit_at X g h).alloc o
theorem below_join {wk W w' : World} (hb : Below W.heap.size W w') (h : Below wk.heap.size wk W) : Below wk.heap.size wk w' := h.trans (hb.mono h.size)

end Go.Proofs.YtlepgkkpopjgoaaGreat
