/- Contracts for the calls of regions that draw their order. -/
import Derived.Test.YtlepgkkpopjgoaaGreatZRatLim
namespace Go.Proofs.YtlepgkkpopjgoaaGreat
open Go.RowKit Go.WideShapes Go.ChangeShapes
set_option linter.unusedVariables false

theorem Bx.drew {w : World} {p : Nat} {t : TypeId} {b : Bool} {v : Value} (h : Bx w p t b v) : Bx w.drew p t b v := h
theorem rowOf_form {w : World} {v : Value} {l : List Int} (h : RowOf iV w v l) : ∃ a c, v = .slice a l.length c := by
  obtain ⟨a, c, h1, _⟩ := h
  exact ⟨a, c, h1⟩
theorem pre_own {R : Value → Value} {f : Nat} {args : Array Value} {W wk : World} {l : List Int} (h : Calls Tryz.prog f args W fun e w' => ∃ v, e = .returned (R v) ∧ OwnI w' W.heap.size v l ∧ Below W.heap.size W w') (hW : Below wk.heap.size wk W) :
    Calls Tryz.prog f args W fun e w' => ∃ v, e = .returned (R v) ∧ OwnI w' wk.heap.size v l ∧ (∀ g, v.ownBlock = some g → W.heap.size ≤ g) ∧ Below W.heap.size W w' ∧ Below wk.heap.size wk w' :=
  h.mono fun _ _ ⟨v, he, ho, hb⟩ => ⟨v, he, ho.base hW.size, fun g hg => (ho.lt g hg).1, hb, hW.trans (hb.mono hW.size)⟩
theorem pre_row {f : Nat} {args : Array Value} {W wk : World} {l : List Int} (h : Calls Tryz.prog f args W fun e w' => ∃ v, e = .returned v ∧ RowOf iV w' v l ∧ Below W.heap.size W w') (hW : Below wk.heap.size wk W) :
    Calls Tryz.prog f args W fun e w' => ∃ v, e = .returned v ∧ RowOf iV w' v l ∧ Below W.heap.size W w' ∧ Below wk.heap.size wk w' :=
  h.mono fun _ _ ⟨v, he, ho, hb⟩ => ⟨v, he, ho, hb, hW.trans (hb.mono hW.size)⟩
theorem pre_rat {b : Bool} {f : Nat} {args : Array Value} {W wk : World} {l m : List Int} (h : Calls Tryz.prog f args W fun e w' => ∃ v d, e = .returned (.agg #[.bool b, v, d]) ∧ OwnR w' W.heap.size v l d m ∧ Below W.heap.size W w') (hW : Below wk.heap.size wk W) :
    Calls Tryz.prog f args W fun e w' => ∃ v d, e = .returned (.agg #[.bool b, v, d]) ∧ OwnR w' wk.heap.size v l d m ∧ (∀ g, v.ownBlock = some g ∨ d.ownBlock = some g → W.heap.size ≤ g) ∧ Below W.heap.size W w' ∧ Below wk.heap.size wk w' :=
  h.mono fun _ _ ⟨v, d, he, ho, hb⟩ => ⟨v, d, he, ho.base hW.size, fun g hg => (ho.lt g hg).1, hb, hW.trans (hb.mono hW.size)⟩
theorem pre_lim {f : Nat} {args : Array Value} {W wk : World} {sh b : Bool} {v d : Value} (h : Calls Tryz.prog f args W fun r w' => ∃ b' a' n' c' e' m' f', r = .returned (.agg #[.bool b', .slice a' n' c', .slice e' m' f']) ∧ Lim sh b v d b' (.slice a' n' c') (.slice e' m' f') ∧ Below W.heap.size W w') (hW : Below wk.heap.size wk W) :
    Calls Tryz.prog f args W fun r w' => ∃ b' a' n' c' e' m' f', r = .returned (.agg #[.bool b', .slice a' n' c', .slice e' m' f']) ∧ Lim sh b v d b' (.slice a' n' c') (.slice e' m' f') ∧ Below W.heap.size W w' ∧ Below wk.heap.size wk w' :=
  h.mono fun _ _ ⟨b', a', n', c', e', m', f', he, ho, hb⟩ => ⟨b', a', n', c', e', m', f', he, ho, hb, hW.trans (hb.mono hW.size)⟩
/-- what was made before W lies apart from what was made since -/
theorem apart_lo {W : World} {B : Nat} {v u : Value} {l : List Int} (h : OwnI W B v l) (hu : ∀ g, u.ownBlock = some g → W.heap.size ≤ g) : ApartR v u := fun g g' e1 e2 => by
  have := (h.lt g e1).2
  have := hu g' e2
  omega
theorem ApartR.symm {v u : Value} (h : ApartR v u) : ApartR u v := fun g g' e1 e2 e => h g' g e2 e1 e.symm
theorem impl_withSignN (b : Bool) (va : Value) (T : Nat) (w : World) (ha : RowOf iV w va (limI T)) (hT : T < pw 60) :
    Calls Tryz.prog 141 #[.bool b, va] w fun e w' => ∃ v, e = .returned (.agg #[.bool (b && decide (0 < T)), v]) ∧ OwnI w' w.heap.size v (limI T) ∧ Below w.heap.size w w' := by
  have h := impl_withSign b va T w ha
  rw [capL_yes hT, sgB_lim] at h
  exact h
theorem spec_makeN (b : Bool) (va : Value) (T : Nat) (w : World) (ha : RowOf iV w va (limI T)) (hT : T < pw 60) :
    Calls Tryz.prog 135 #[.bool b, va] w fun e w' => ∃ v, e = .returned (.agg #[.bool (b && decide (0 < T)), v]) ∧ OwnI w' w.heap.size v (limI T) ∧ Below w.heap.size w w' := by
  have h := spec_make b va T (nlen T) w ha (Nat.le_refl _)
  rw [capL_yes hT, sgB_lim] at h
  exact h
theorem lim_ownL {w : World} {B x d : Nat} {b s b' : Bool} {v dd v' d' : Value} (h : Lim (decide ((limI x).length ≤ 24) && decide ((limI d).length ≤ 24)) b v dd b' v' d') (h0 : 0 < d) (hb : b = (s && decide (0 < x))) (ho : OwnR w B v (limI x) dd (limI d)) :
    b' = mkB s x d ∧ OwnR w B v' (mkZ x d) d' (mkD x d) := by
  rw [limI_length, limI_length] at h
  exact lim_own h h0 hb ho

theorem Bx.ne_row {w : World} {p : Nat} {t : TypeId} {b : Bool} {v u : Value} {l : List Int} {B : Nat} (h : Bx w p t b v) (ho : OwnI w B u l) (ht : t ≠ 3) : some p ≠ u.ownBlock := by
  intro e
  rcases ho.2 with ⟨rfl, _⟩ | ⟨g, cap, cur, rfl, _, hgb, _⟩
  · simp [Value.ownBlock] at e
  · have e2 : p = g := by simpa [Value.ownBlock] using e
    subst e2
    have h2 : w.heap[p]? = _ := h
    rw [hgb] at h2
    injection h2 with h2
    injection h2 with _ h3 _
    exact ht h3.symm
theorem own_bx1 {w : World} {p : Nat} {t : TypeId} {b : Bool} {v u : Value} {l : List Int} {B : Nat} (ho : OwnI w B u l) (h : Bx w p t b v) (ht : t ≠ 3) (j : Nat) (x : Value) : OwnI (w.setCell ⟨p, j, none⟩ x) B u l := by
  refine ho.other (setCell_grown w p j x) (fun g g' e1 e2 e3 => ?_)
  have e4 : p = g' := by simpa using e2
  exact h.ne_row ho ht (by rw [e1, e3, e4])
theorem Bx.set1 {w : World} {p : Nat} {t : TypeId} {b : Bool} {v v' : Value} (h : Bx w p t b v) : Bx (w.setCell ⟨p, 1, none⟩ v') p t b v' := by
  have h' : w.heap[p]? = some (.cells #[.bool b, v] t (0, 0)) := h
  show (w.setCell ⟨p, 1, none⟩ v').heap[p]? = some (.cells #[.bool b, v'] t (0, 0))
  simp [World.setCell, Array.getElem?_modify, h']
/-- a row of limbs lies in no block of a sign and a row -/
theorem rowOf_bx {w : World} {p j : Nat} {t : TypeId} {b : Bool} {a : Option Addr} {n c : Nat} {v y : Value} {l : List Int} (h : RowOf iV w v l) (D : Bx w p t b (.slice a n c)) : RowOf iV (w.setCell ⟨p, j, none⟩ y) v l := by
  obtain ⟨a', c', e, h1, h2, h3⟩ := h
  refine ⟨a', c', e, h1, h2, fun i hi => ?_⟩
  obtain ⟨b', o, e1, e2⟩ := h3 i hi
  refine ⟨b', o, e1, ?_⟩
  by_cases hb : b' = p
  · subst hb
    have D' : w.heap[b']? = some (.cells #[.bool b, .slice a n c] t (0, 0)) := D
    have hk : o + i = 0 ∨ o + i = 1 ∨ 2 ≤ o + i := by omega
    rcases hk with hk | hk | hk
    · rw [hk] at e2; simp [World.cell?, D', iV] at e2
    · rw [hk] at e2; simp [World.cell?, D', iV] at e2
    · have : w.cell? ⟨b', o + i, none⟩ = none := by
        simp [World.cell?, D']
        omega
      rw [this] at e2; cases e2
  · exact (World.cell?_of_block (a := ⟨b', o + i, none⟩) (Below.heap_setCell _ ⟨p, j, none⟩ y b' hb)).trans e2
theorem impl_plusN (b0 : Bool) (va : Value) (x : Nat) (b1 : Bool) (vb : Value) (y : Nat) (w : World) (ha : RowOf iV w va (limI x)) (hb : RowOf iV w vb (limI y)) (hx : nlen x ≤ 400) (hy : nlen y ≤ 400) (hT : sgAddN b0 x b1 y < pw 60) :
    Calls Tryz.prog 175 #[.agg #[.bool b0, va], .bool b1, vb] w fun e w' => ∃ v, e = .returned (.agg #[.bool (sgAddB b0 x b1 y && decide (0 < sgAddN b0 x b1 y)), v]) ∧ OwnI w' w.heap.size v (limI (sgAddN b0 x b1 y)) ∧ Below w.heap.size w w' := by
  have h := impl_plusBig b0 va x b1 vb y w ha hb hx hy
  rw [capL_yes hT, sgB_lim] at h
  exact h
theorem spec_addN (b0 : Bool) (va : Value) (x : Nat) (b1 : Bool) (vb : Value) (y : Nat) (w : World) (ha : RowOf iV w va (limI x)) (hb : RowOf iV w vb (limI y)) (hx : nlen x ≤ 400) (hy : nlen y ≤ 400) (hT : sgAddN b0 x b1 y < pw 60) :
    Calls Tryz.prog 192 #[.agg #[.bool b0, va], .agg #[.bool b1, vb]] w fun e w' => ∃ v, e = .returned (.agg #[.bool (sgAddB b0 x b1 y && decide (0 < sgAddN b0 x b1 y)), v]) ∧ OwnI w' w.heap.size v (limI (sgAddN b0 x b1 y)) ∧ Below w.heap.size w w' := by
  have h := spec_addBig b0 va x b1 vb y w ha hb hx hy
  rw [capL_yes hT, sgB_lim] at h
  exact h

end Go.Proofs.YtlepgkkpopjgoaaGreat
