/- Pivots and factors appended, elements exchanged. -/
import Derived.Test.YtlepgkkpopjgoaaGreatZElClr
import Derived.Test.YtlepgkkpopjgoaaGreatZRatInt
namespace Go.Proofs.YtlepgkkpopjgoaaGreat
open Go.RowKit Go.WideShapes Go.ChangeShapes
set_option linter.unusedVariables false
set_option linter.unusedSimpArgs false

set_option maxRecDepth 100000 in
/-- a factor appended -/
theorem append_fac {ops : Array Oper} {rest : List Oper} {o : Oper} {a : Act} {Q : Exit → Act → World → Prop} {w : World} (hgd : o.guard = none) (s x : Operand)
    (ho : o.op = .call { callee := .builtin .append, args := #[s, x], argTypes := #[23, 23] })
    {B : Nat} {v : Value} {R C : Nat} {e : El} {pv fv : Value} {xs ps : List (Value × Value)} (hs : a.eval s = fv) (hE : ElS w B v R C e pv fv xs ps) (hL : e.fac.length ≤ 100000) (hB : B ≤ w.heap.size)
    (g c : Nat) (hx : a.eval x = .slice (some ⟨g, 0, none⟩) 1 c) (f : Fr) (a1 : Option Addr) (n1 r1 : Nat) (a2 : Option Addr) (n2 r2 : Nat) (hblk : w.heap[g]? = some (.cells #[.bool f.neg, .slice a1 n1 r1, .slice a2 n2 r2] 34 (0, 0)))
    (hr : RowR w (.slice a1 n1 r1) f.mag (.slice a2 n2 r2) f.den) (hl : ∀ k, ((Value.slice a1 n1 r1).ownBlock = some k ∨ (Value.slice a2 n2 r2).ownBlock = some k) → k < w.heap.size ∧ v.ownBlock ≠ some k ∧ pv.ownBlock ≠ some k ∧ fv.ownBlock ≠ some k)
    (h : ∀ fv' w', ElS w' B v R C ⟨e.g, e.piv, e.fac ++ [f]⟩ pv fv' xs (ps ++ [(.slice a1 n1 r1, .slice a2 n2 r2)]) → w.grownBy w' fv.ownBlock → wpList Tryz.prog ops Q rest (a.put o.dst fv') w') : wpList Tryz.prog ops Q (o :: rest) a w := by
  obtain ⟨i0, hi, hz0, hz1, hz2⟩ := info_parts info_rat
  refine Go.wpList_append_lies w hgd s x 23 ho B 34 i0 _ 3 56 Tryz.underlying23 hi hz0 hz1 hz2 rfl (by decide) fv e.fac.length (flat e.fac ps) hs hE.F ⟨g, 0, none⟩ 1 c
    [.bool f.neg, .slice a1 n1 r1, .slice a2 n2 r2] hx rfl (World.news_of_block hblk) (by intro u hu; simp at hu; rcases hu with rfl | rfl | rfl <;> rfl) (by decide) (by unfold maxLen; omega) (by omega) hB w.heap.size rfl ?_
  intro g' cap w' hr' hg hgg _
  exact h _ w' (hE.addF hg hr' (fun k hk => by
    have e : g' = k := by simpa [Value.ownBlock] using hk
    subst e
    rcases hgg with e | e
    · exact .inl e
    · exact .inr (by omega)) hr hl) hg
set_option maxRecDepth 100000 in
/-- a pivot appended -/
theorem append_piv {ops : Array Oper} {rest : List Oper} {o : Oper} {a : Act} {Q : Exit → Act → World → Prop} {w : World} (hgd : o.guard = none) (s x : Operand)
    (ho : o.op = .call { callee := .builtin .append, args := #[s, x], argTypes := #[30, 30] })
    {B : Nat} {v : Value} {R C : Nat} {e : El} {pv fv : Value} {xs ps : List (Value × Value)} (hs : a.eval s = pv) (hE : ElS w B v R C e pv fv xs ps) (hL : e.piv.length ≤ 100000) (hB : B ≤ w.heap.size)
    (ad : Addr) (k : Nat) (hx : a.eval x = .slice (some ad) 1 1) (hc : ∀ j y, [Value.int .i64 (k : Int)][j]? = some y → w.cell? (ad.add j) = some y)
    (h : ∀ pv' w', ElS w' B v R C ⟨e.g, e.piv ++ [k], e.fac⟩ pv' fv xs ps → w.grownBy w' pv.ownBlock → wpList Tryz.prog ops Q rest (a.put o.dst pv') w') : wpList Tryz.prog ops Q (o :: rest) a w := by
  obtain ⟨i0, hi, hz0, hz1, hz2⟩ := info_parts info_int
  have hl : (natV e.piv).length = e.piv.length := by simp [natV]
  refine Go.wpList_append_lies w hgd s x 30 ho B 3 i0 (.int .i64 0) 1 8 Tryz.underlying30 hi hz0 hz1 hz2 rfl (by decide) pv (natV e.piv).length ((natV e.piv).map iV) hs hE.P ad 1 1
    [.int .i64 (k : Int)] hx rfl hc (by simp [Value.oneCell']) (by decide) (by unfold maxLen; omega) (by omega) hB w.heap.size rfl ?_
  intro g' cap w' hr' hg hgg _
  have ho' : OwnI w' B (.slice (some ⟨g', 0, none⟩) ((natV e.piv).length + 1) cap) (natV (e.piv ++ [k])) := by
    have e9 : natV (e.piv ++ [k]) = natV e.piv ++ [(k : Int)] := by simp [natV]
    unfold OwnI
    rw [e9, List.length_append, List.map_append]
    exact hr'
  exact h _ w' (hE.addP hg ho' (fun j hj => by
    have e : g' = j := by simpa [Value.ownBlock] using hj
    subst e
    rcases hgg with e | e
    · exact .inl e
    · exact .inr (by omega))) hg
theorem natV_len (l : List Nat) : (natV l).length = l.length := by simp [natV]
/-- two elements of a column exchanged -/
theorem swap_at {w : World} {B q N cap R C i n j : Nat} {g : Mx} {xs : List (Value × Value)} (h : OwnV w B (.slice (some ⟨q, 0, none⟩) N cap) (tabM R C g) xs) (hi : i < R) (hn : n < R) (hj : j < C) {p1 p2 : Value × Value}
    (e1 : ∃ hj : i * C + j < xs.length, xs[i * C + j]'hj = p1) (e2 : ∃ hj : n * C + j < xs.length, xs[n * C + j]'hj = p2) {ji jn : Nat} (hji : i * C + j = ji) (hjn : n * C + j = jn) :
    ∃ ys, OwnV ((((((w.setCell ⟨q, ji * 3, none⟩ (.bool (g n j).neg)).setCell ⟨q, ji * 3 + 1, none⟩ p2.1).setCell ⟨q, ji * 3 + 2, none⟩ p2.2).setCell ⟨q, jn * 3, none⟩ (.bool (g i j).neg)).setCell ⟨q, jn * 3 + 1, none⟩ p1.1).setCell ⟨q, jn * 3 + 2, none⟩ p1.2)
      B (.slice (some ⟨q, 0, none⟩) N cap) (((tabM R C g).set (i * C + j) (g n j)).set (n * C + j) (g i j)) ys ∧ (∀ k, OnV (.slice (some ⟨q, 0, none⟩) N cap) ys k → OnV (.slice (some ⟨q, 0, none⟩) N cap) xs k) := by
  subst hji hjn
  obtain ⟨h1', e1⟩ := e1
  obtain ⟨h2', e2⟩ := e2
  have h1 : i * C + j < (tabM R C g).length := by rw [tabM_len]; exact at_lt hi hj
  have h2 : n * C + j < (tabM R C g).length := by rw [tabM_len]; exact at_lt hn hj
  have hs := h.swap (i * C + j) (n * C + j) h1 h2 h1' h2'
  have ho := onV_swap (v := .slice (some ⟨q, 0, none⟩) N cap) h1' h2'
  rw [tabM_get hj, tabM_get hj, e1, e2] at hs
  rw [e1, e2] at ho
  exact ⟨_, hs, ho⟩
theorem OwnV.after3 {w W : World} {B g n c : Nat} {L : List Fr} {xs : List (Value × Value)} (h : OwnV w B (.slice (some ⟨g, 0, none⟩) n c) L xs) (i k : Nat) (u1 u2 u3 : Value) (hk : k < L.length) (hW : W = ((w.setCell ⟨g, i * 3, none⟩ u1).setCell ⟨g, i * 3 + 1, none⟩ u2).setCell ⟨g, i * 3 + 2, none⟩ u3) :
    (∃ s, W.cell? ⟨g, k * 3, none⟩ = some s) ∧ (∃ s, W.cell? ⟨g, k * 3 + 1, none⟩ = some s) ∧ (∃ s, W.cell? ⟨g, k * 3 + 2, none⟩ = some s) ∧ W.frozen? ⟨g, k * 3, none⟩ = false ∧ W.frozen? ⟨g, k * 3 + 1, none⟩ = false ∧ W.frozen? ⟨g, k * 3 + 2, none⟩ = false := by
  have e := h.count
  subst e
  have hr := (((h.row.stored (i * 3) u1).1.stored (i * 3 + 1) u2).1.stored (i * 3 + 2) u3).1
  rw [← hW] at hr
  have hl := flat_len L xs h.len
  have key : ∀ j, j < L.length * 3 → ∃ s, W.cell? ⟨g, j, none⟩ = some s := fun j hj => ⟨_, (hr.cellAt j (by omega)).trans (List.getElem?_eq_getElem (by simp only [List.length_set]; omega))⟩
  exact ⟨key _ (by omega), key _ (by omega), key _ (by omega), hr.frozenAt _, hr.frozenAt _, hr.frozenAt _⟩
theorem kept3 (w : World) (q a : Nat) (u1 u2 u3 : Value) : Kept (fun k => k = q) w (((w.setCell ⟨q, a * 3, none⟩ u1).setCell ⟨q, a * 3 + 1, none⟩ u2).setCell ⟨q, a * 3 + 2, none⟩ u3) :=
  ((kept_set w q (a * 3) u1).trans (kept_set _ q (a * 3 + 1) u2)).trans (kept_set _ q (a * 3 + 2) u3)
theorem kept6 (w : World) (q a b : Nat) (u1 u2 u3 u4 u5 u6 : Value) : Kept (fun k => k = q) w ((((((w.setCell ⟨q, a * 3, none⟩ u1).setCell ⟨q, a * 3 + 1, none⟩ u2).setCell ⟨q, a * 3 + 2, none⟩ u3).setCell ⟨q, b * 3, none⟩ u4).setCell ⟨q, b * 3 + 1, none⟩ u5).setCell ⟨q, b * 3 + 2, none⟩ u6) :=
  ((((kept_set w q (a * 3) u1).trans (kept_set _ q (a * 3 + 1) u2)).trans (kept_set _ q (a * 3 + 2) u3)).trans (kept_set _ q (b * 3) u4)).trans ((kept_set _ q (b * 3 + 1) u5).trans (kept_set _ q (b * 3 + 2) u6))
theorem ElS.swapped {w w' : World} {B q N cap R C : Nat} {P0 : List Nat} {F0 : List Fr} {g : Mx} {pv fv : Value} {xs ys ps : List (Value × Value)} (h : ElS w B (.slice (some ⟨q, 0, none⟩) N cap) R C ⟨g, P0, F0⟩ pv fv xs ps)
    {g' : Mx} (hv : OwnV w' B (.slice (some ⟨q, 0, none⟩) N cap) (tabM R C g') ys) (ho : ∀ k, OnV (.slice (some ⟨q, 0, none⟩) N cap) ys k → OnV (.slice (some ⟨q, 0, none⟩) N cap) xs k) (hk : Kept (fun k => k = q) w w') : ElS w' B (.slice (some ⟨q, 0, none⟩) N cap) R C ⟨g', P0, F0⟩ pv fv ys ps :=
  h.cells hv hk (fun k e => .inl (by rw [e]; rfl)) (fun k hk => .inl (ho k hk))
theorem oneL_eq : oneL = [1] := rfl
theorem m1_eq : (⟨ofB (-1), ofL (-1), oneL⟩ : Fr) = m1F := by
  rw [oneL_eq]
  show (⟨ofB (-1), ofL (-1), [1]⟩ : Fr) = ⟨true, [1], [1]⟩
  exact congrArg (fun z => (⟨true, z, [1]⟩ : Fr)) limI_1
set_option maxHeartbeats 400000 in
theorem spec_m1 (w : World) : Calls Tryz.prog 82 #[.int .i64 (-1)] w fun r w' => ∃ a c d b, r = .returned (.agg #[.bool m1F.neg, .slice a m1F.mag.length c, .slice d m1F.den.length b]) ∧ OwnR w' w.heap.size (.slice a m1F.mag.length c) m1F.mag (.slice d m1F.den.length b) m1F.den ∧ Below w.heap.size w w' := by
  have h := spec_ratFromIntL (-1) w (by omega)
  have e := m1_eq
  have e1 : ofB (-1) = m1F.neg := congrArg Fr.neg e
  have e2 : ofL (-1) = m1F.mag := congrArg Fr.mag e
  have e3 : oneL = m1F.den := congrArg Fr.den e
  rw [e1, e2, e3] at h
  refine h.mono ?_
  rintro r w' ⟨v, d, rfl, ho, hb⟩
  obtain ⟨a, c, d, b, rfl, rfl⟩ := ho.slices
  exact ⟨a, c, d, b, rfl, ho, hb⟩

theorem alloc_two (w : World) (o1 o2 : Obj) : ((w.alloc o1).alloc o2).heap[w.heap.size + 1]? = some o2 := by
  have h := World.alloc_heap_new (w.alloc o1) o2
  rwa [World.size_alloc] at h
theorem ElS.V' {w : World} {B : Nat} {v : Value} {R C : Nat} {g : Mx} {P : List Nat} {F : List Fr} {pv fv : Value} {xs ps : List (Value × Value)} (h : ElS w B v R C ⟨g, P, F⟩ pv fv xs ps) : OwnV w B v (tabM R C g) xs := h.V
theorem ElS.reg {w : World} {B : Nat} {v : Value} {R C : Nat} {g g' : Mx} {P : List Nat} {F : List Fr} {pv fv : Value} {xs ps : List (Value × Value)} (h : ElS w B v R C ⟨g, P, F⟩ pv fv xs ps) (e : tabM R C g = tabM R C g') : ElS w B v R C ⟨g', P, F⟩ pv fv xs ps :=
  ⟨by show OwnV w B v (tabM R C g') xs; rw [← e]; exact h.V, h.P, h.F, h.plen, h.fr, h.lt, h.vp, h.vf, h.pf, h.qv⟩
/-- the blocks of pivots and factors are none of a matrix's -/
theorem ElS.off3 {w : World} {B : Nat} {v : Value} {R C : Nat} {e : El} {pv fv : Value} {xs ps : List (Value × Value)} {p : Nat} {x y z : Value} (h : ElS w B v R C e pv fv xs ps) (D : B3 w p 25 x y z) : pv.ownBlock ≠ some p ∧ fv.ownBlock ≠ some p := by
  have D' : w.heap[p]? = some (.cells #[x, y, z] 25 (0, 0)) := D
  constructor
  · intro e9
    rcases h.P.2 with ⟨rfl, _⟩ | ⟨g1, cap1, cur1, rfl, _, hg1, _⟩
    · simp [Value.ownBlock] at e9
    · have e1 : g1 = p := by simpa [Value.ownBlock] using e9
      subst e1
      rw [hg1] at D'
      injection D' with D'
      injection D' with _ h3 _
      exact absurd h3 (by decide)
  · intro e9
    rcases h.F.2 with ⟨rfl, _⟩ | ⟨g1, cap1, cur1, rfl, _, hg1, _⟩
    · simp [Value.ownBlock] at e9
    · have e1 : g1 = p := by simpa [Value.ownBlock] using e9
      subst e1
      rw [hg1] at D'
      injection D' with D'
      injection D' with _ h3 _
      exact absurd h3 (by decide)

end Go.Proofs.YtlepgkkpopjgoaaGreat
