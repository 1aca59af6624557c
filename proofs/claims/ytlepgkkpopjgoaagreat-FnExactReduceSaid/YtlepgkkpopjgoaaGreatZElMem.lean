/- Elimination in memory: elements exchanged, elements copied in, and the state of an elimination: cells, pivots and factors. -/
import Derived.Test.YtlepgkkpopjgoaaGreatZElim
import Derived.Test.YtlepgkkpopjgoaaGreatZVecx
import Derived.Test.YtlepgkkpopjgoaaGreatZVecUnit
import Derived.Test.YtlepgkkpopjgoaaGreatZQuot2
import Derived.Laws.CopyOwn
namespace Go.Proofs.YtlepgkkpopjgoaaGreat
open Go.RowKit Go.WideShapes Go.ChangeShapes
set_option linter.unusedVariables false
set_option linter.unusedSimpArgs false

theorem rowOf_keptS {w w' : World} {S : Nat → Prop} {v : Value} {l : List Int} (h : RowOf iV w v l) (hk : Kept S w w') (hne : ∀ g, v.ownBlock = some g → ¬ S g) : RowOf iV w' v l := by
  obtain ⟨a, cap, rfl, h1, h2, h3⟩ := h
  refine ⟨a, cap, rfl, h1, h2, fun i hi => ?_⟩
  obtain ⟨b, o, rfl, hc⟩ := h3 i hi
  exact ⟨b, o, rfl, (World.cell?_of_block (hk.block b (World.block_lt_of_cell? w _ hc) (hne b rfl))).trans hc⟩
theorem RowR.keptS {w w' : World} {S : Nat → Prop} {v d : Value} {zs ds : List Int} (h : RowR w v zs d ds) (hk : Kept S w w') (hne : ∀ g, (v.ownBlock = some g ∨ d.ownBlock = some g) → ¬ S g) : RowR w' v zs d ds :=
  ⟨rowOf_keptS h.1 hk (fun g e => hne g (.inl e)), rowOf_keptS h.2 hk (fun g e => hne g (.inr e))⟩

/-- two elements exchanged -/
theorem OwnV.swap {w : World} {B g n c : Nat} {L : List Fr} {xs : List (Value × Value)} (h : OwnV w B (.slice (some ⟨g, 0, none⟩) n c) L xs) (i j : Nat) (hi : i < L.length) (hj : j < L.length) (hi' : i < xs.length) (hj' : j < xs.length) :
    OwnV ((((((w.setCell ⟨g, i * 3, none⟩ (.bool (L[j]'hj).neg)).setCell ⟨g, i * 3 + 1, none⟩ (xs[j]'hj').1).setCell ⟨g, i * 3 + 2, none⟩ (xs[j]'hj').2).setCell ⟨g, j * 3, none⟩ (.bool (L[i]'hi).neg)).setCell ⟨g, j * 3 + 1, none⟩ (xs[i]'hi').1).setCell ⟨g, j * 3 + 2, none⟩ (xs[i]'hi').2)
      B (.slice (some ⟨g, 0, none⟩) n c) ((L.set i (L[j]'hj)).set j (L[i]'hi)) ((xs.set i (xs[j]'hj')).set j (xs[i]'hi')) := by
  have e := h.count
  subst e
  have hk := ((((kept_set w g (i * 3) (.bool (L[j]'hj).neg)).trans (kept_set _ g (i * 3 + 1) (xs[j]'hj').1)).trans (kept_set _ g (i * 3 + 2) (xs[j]'hj').2)).trans (kept_set _ g (j * 3) (.bool (L[i]'hi).neg))).trans ((kept_set _ g (j * 3 + 1) (xs[i]'hi').1).trans (kept_set _ g (j * 3 + 2) (xs[i]'hi').2))
  have key : ∀ a, a < L.length → ∃ b, ∃ (hb : b < L.length) (hb' : b < xs.length), (∀ (ha : a < ((L.set i (L[j]'hj)).set j (L[i]'hi)).length), ((L.set i (L[j]'hj)).set j (L[i]'hi))[a]'ha = L[b]'hb) ∧ (∀ (ha : a < ((xs.set i (xs[j]'hj')).set j (xs[i]'hi')).length), ((xs.set i (xs[j]'hj')).set j (xs[i]'hi'))[a]'ha = xs[b]'hb') ∧ b = (if a = j then i else if a = i then j else a) := by
    intro a ha
    by_cases h1 : a = j
    · subst h1; exact ⟨i, hi, hi', fun _ => by simp, fun _ => by simp, by simp⟩
    · by_cases h2 : a = i
      · subst h2
        exact ⟨j, hj, hj', fun _ => by rw [List.getElem_set_ne (fun e => h1 e.symm)]; simp, fun _ => by rw [List.getElem_set_ne (fun e => h1 e.symm)]; simp, by rw [if_neg h1, if_pos rfl]⟩
      · exact ⟨a, ha, by have := h.len; omega, fun _ => by rw [List.getElem_set_ne (fun e => h1 e.symm), List.getElem_set_ne (fun e => h2 e.symm)], fun _ => by rw [List.getElem_set_ne (fun e => h1 e.symm), List.getElem_set_ne (fun e => h2 e.symm)], by rw [if_neg h1, if_neg h2]⟩
  refine ⟨by simp [h.len], ?_, fun a ha ha' => ?_, fun a b ha hb hab r r' e1 e2 => ?_⟩
  · have h1 := (((((((h.row.stored (i * 3) (.bool (L[j]'hj).neg)).1).stored (i * 3 + 1) (xs[j]'hj').1).1.stored (i * 3 + 2) (xs[j]'hj').2).1.stored (j * 3) (.bool (L[i]'hi).neg)).1.stored (j * 3 + 1) (xs[i]'hi').1).1.stored (j * 3 + 2) (xs[i]'hi').2).1
    rw [flat_set3 L xs i (L[j]'hj) (xs[j]'hj') hi h.len, flat_set3 _ _ j (L[i]'hi) (xs[i]'hi') (by simpa using hj) (by simp [h.len])] at h1
    rw [List.length_set, List.length_set]; exact h1
  · obtain ⟨b, hb, hb', k1, k2, _⟩ := key a (by simpa using ha)
    rw [k1 ha, k2 ha']
    exact (h.each b hb hb').kept hk (fun g' e hg => h.ne_row b hb' g' e (by rw [hg]; rfl))
  · have hla : a < L.length := by have := h.len; simp at ha; omega
    have hlb : b < L.length := by have := h.len; simp at hb; omega
    obtain ⟨a2, ha2, ha2', _, k2, ea⟩ := key a hla
    obtain ⟨b2, hb2, hb2', _, l2, eb⟩ := key b hlb
    rw [k2 ha] at e1
    rw [l2 hb] at e2
    refine h.apart a2 b2 ha2' hb2' ?_ r r' e1 e2
    intro e3
    rw [ea, eb] at e3
    apply hab
    split at e3 <;> split at e3 <;> (try split at e3) <;> (try split at e3) <;> omega

theorem flat_app2 : ∀ (L M : List Fr) (xs ys : List (Value × Value)), xs.length = L.length → flat (L ++ M) (xs ++ ys) = flat L xs ++ flat M ys
  | [], M, [], ys, _ => rfl
  | x :: L, M, p :: xs, ys, h => by
    simp only [List.cons_append, flat, flat_app2 L M xs ys (by simpa using h)]
theorem flat_takeN (L : List Fr) (xs : List (Value × Value)) (o : Nat) (h : xs.length = L.length) : (flat L xs).take (o * 3) = flat (L.take o) (xs.take o) := by
  have e : flat L xs = flat (L.take o) (xs.take o) ++ flat (L.drop o) (xs.drop o) := by
    rw [← flat_app2 _ _ _ _ (by simp [h]), List.take_append_drop, List.take_append_drop]
  have hl := flat_len (L.take o) (xs.take o) (by simp [h])
  rw [e]
  rcases Nat.lt_or_ge L.length o with h1 | h1
  · have h2 : L.drop o = [] := List.drop_eq_nil_of_le (by omega)
    have h3 : xs.drop o = [] := List.drop_eq_nil_of_le (by omega)
    rw [h2, h3]
    show (flat (L.take o) (xs.take o) ++ []).take (o * 3) = _
    rw [List.append_nil, List.take_of_length_le (by rw [hl, List.length_take]; omega)]
  · rw [List.take_append_of_le_length (by rw [hl, List.length_take]; omega), List.take_of_length_le (by rw [hl, List.length_take]; omega)]
theorem flat_dropN (L : List Fr) (xs : List (Value × Value)) (o : Nat) (h : xs.length = L.length) (ho : o ≤ L.length) : (flat L xs).drop (o * 3) = flat (L.drop o) (xs.drop o) := by
  have e : flat L xs = flat (L.take o) (xs.take o) ++ flat (L.drop o) (xs.drop o) := by
    rw [← flat_app2 _ _ _ _ (by simp [h]), List.take_append_drop, List.take_append_drop]
  have hl := flat_len (L.take o) (xs.take o) (by simp [h])
  rw [e, List.drop_append, List.drop_eq_nil_of_le (by rw [hl, List.length_take]; omega), hl, List.length_take, Nat.min_eq_left ho, Nat.sub_self, List.drop_zero, List.nil_append]
/-- M in the place of as many elements from o on -/
def spl {α : Type} (L : List α) (o : Nat) (M : List α) : List α := L.take o ++ M ++ L.drop (o + M.length)
theorem spl_len {α : Type} {L M : List α} {o : Nat} (h : o + M.length ≤ L.length) : (spl L o M).length = L.length := by simp [spl]; omega
theorem spl_get {α : Type} {L M : List α} {o j : Nat} (h : o + M.length ≤ L.length) (hj : j < (spl L o M).length) :
    (spl L o M)[j]'hj = if h1 : o ≤ j ∧ j < o + M.length then M[j - o]'(by omega) else L[j]'(by rw [spl_len h] at hj; exact hj) := by
  have hj2 : j < L.length := by rw [spl_len h] at hj; exact hj
  apply Option.some.inj
  rw [← List.getElem?_eq_getElem hj]
  unfold spl
  by_cases h1 : j < o
  · rw [dif_neg (by omega), List.getElem?_append_left (by simp; omega), List.getElem?_append_left (by simp; omega), List.getElem?_take_of_lt h1, List.getElem?_eq_getElem hj2]
  · by_cases h2 : j < o + M.length
    · rw [dif_pos ⟨by omega, h2⟩, List.getElem?_append_left (by simp; omega), List.getElem?_append_right (by simp; omega), List.length_take, Nat.min_eq_left (by omega), List.getElem?_eq_getElem]
    · rw [dif_neg (by omega), List.getElem?_append_right (by simp; omega), List.getElem?_drop, List.length_append, List.length_take, Nat.min_eq_left (by omega), show o + M.length + (j - (o + M.length)) = j by omega, List.getElem?_eq_getElem hj2]
/-- elements of rows of their own copied into a vector -/
theorem OwnV.splice {w : World} {B g n c o : Nat} {L M : List Fr} {xs ys : List (Value × Value)} {cur : List Value} (h : OwnV w B (.slice (some ⟨g, 0, none⟩) n c) L xs)
    (hg : w.heap[g]? = some (.cells cur.toArray 34 (0, 0))) (hl : ys.length = M.length) (ho : o + M.length ≤ L.length)
    (he : ∀ i (h1 : i < M.length) (h2 : i < ys.length), OwnR w B (ys[i]'h2).1 (M[i]'h1).mag (ys[i]'h2).2 (M[i]'h1).den)
    (ha : ∀ i j (hi : i < ys.length) (hj : j < ys.length), i ≠ j → ∀ r r', ((ys[i]'hi).1.ownBlock = some r ∨ (ys[i]'hi).2.ownBlock = some r) → ((ys[j]'hj).1.ownBlock = some r' ∨ (ys[j]'hj).2.ownBlock = some r') → r ≠ r')
    (hx : ∀ p ∈ xs, ∀ q ∈ ys, ∀ r r', (p.1.ownBlock = some r ∨ p.2.ownBlock = some r) → (q.1.ownBlock = some r' ∨ q.2.ownBlock = some r') → r ≠ r')
    (hn : ∀ q ∈ ys, ∀ r, (q.1.ownBlock = some r ∨ q.2.ownBlock = some r) → r ≠ g) :
    OwnV (w.setRow g (cur.take (o * 3) ++ flat M ys ++ cur.drop (o * 3 + (flat M ys).length)).toArray) B (.slice (some ⟨g, 0, none⟩) n c) (spl L o M) (spl xs o ys) ∧
      Kept (fun k => k = g) w (w.setRow g (cur.take (o * 3) ++ flat M ys ++ cur.drop (o * 3 + (flat M ys).length)).toArray) := by
  have e := h.count
  subst e
  have hk : Kept (fun k => k = g) w (w.setRow g (cur.take (o * 3) ++ flat M ys ++ cur.drop (o * 3 + (flat M ys).length)).toArray) := (Kept.of_grown (setRow_grown w g _)).mono (fun k e => by simpa using e.symm)
  have hfl := flat_len M ys hl
  have hxl := h.len
  have hox : o + ys.length ≤ xs.length := by omega
  refine ⟨⟨by rw [spl_len ho, spl_len hox, hxl], ?_, fun j hj hj' => ?_, fun i j hi hj hij r r' e1 e2 => ?_⟩, hk⟩
  · rw [spl_len ho]
    rcases h.row.2 with ⟨hv, _⟩ | ⟨g1, cap, cur1, hv, hB, hg1, h1, h2, h3, h4⟩
    · cases hv
    · injection hv with a1 a2 a3
      injection a1 with a1
      injection a1 with a1 _ _
      subst a1 a3
      rw [hg] at hg1
      injection hg1 with hg1
      injection hg1 with hg1 _ _
      subst hg1
      simp only [List.size_toArray] at h3
      refine ⟨by rw [flat_len _ _ (by rw [spl_len ho, spl_len hox, hxl]), spl_len ho], .inr ⟨g, c, _, rfl, hB, setRow_heap w g _ _ _ _ hg, h1, h2, ?_, ?_⟩⟩
      · simp only [List.size_toArray, List.length_append, List.length_take, List.length_drop, hfl]; omega
      · simp only at h4
        have e5 : flat (spl L o M) (spl xs o ys) = (flat L xs).take (o * 3) ++ flat M ys ++ (flat L xs).drop ((o + M.length) * 3) := by
          unfold spl
          rw [flat_app2 _ _ _ _ (by simp [hxl, hl]), flat_app2 _ _ _ _ (by simp [hxl]), flat_takeN _ _ _ hxl, hl, flat_dropN _ _ _ hxl ho]
        rw [e5, ← h4, hfl]
        rw [List.take_append, List.take_of_length_le (l := List.take (o * 3) cur ++ flat M ys) (by simp only [List.length_append, List.length_take, hfl]; omega)]
        congr 1
        · rw [List.take_take, Nat.min_eq_left (by omega)]
        · rw [List.drop_take, show o * 3 + M.length * 3 = (o + M.length) * 3 by omega]
          congr 1
          simp only [List.length_append, List.length_take, hfl]; omega
  · rw [spl_len ho] at hj
    rw [spl_len hox] at hj'
    rw [spl_get ho, spl_get hox]
    by_cases h1 : o ≤ j ∧ j < o + M.length
    · rw [dif_pos h1, dif_pos (by omega)]
      exact (he (j - o) (by omega) (by omega)).kept hk (fun r e => hn _ (List.getElem_mem _) r e)
    · rw [dif_neg h1, dif_neg (by omega)]
      exact (h.each j hj hj').kept hk (fun r e hr => h.ne_row j hj' r e (by rw [hr]; rfl))
  · rw [spl_len hox] at hi hj
    rw [spl_get hox] at e1
    rw [spl_get hox] at e2
    by_cases h1 : o ≤ i ∧ i < o + ys.length
    · rw [dif_pos h1] at e1
      by_cases h2 : o ≤ j ∧ j < o + ys.length
      · rw [dif_pos h2] at e2
        exact ha _ _ _ _ (by omega) r r' e1 e2
      · rw [dif_neg h2] at e2
        exact (hx _ (List.getElem_mem _) _ (List.getElem_mem _) r' r e2 e1).symm
    · rw [dif_neg h1] at e1
      by_cases h2 : o ≤ j ∧ j < o + ys.length
      · rw [dif_pos h2] at e2
        exact hx _ (List.getElem_mem _) _ (List.getElem_mem _) r r' e1 e2
      · rw [dif_neg h2] at e2
        exact h.apart i j hi hj hij r r' e1 e2
theorem OwnV.block {w : World} {B g n c : Nat} {L : List Fr} {xs : List (Value × Value)} (h : OwnV w B (.slice (some ⟨g, 0, none⟩) n c) L xs) :
    ∃ cur : List Value, w.heap[g]? = some (.cells cur.toArray 34 (0, 0)) ∧ cur.length = c * 3 ∧ n ≤ c := by
  rcases h.row.2 with ⟨hv, _⟩ | ⟨g1, cap, cur1, hv, hB, hg1, h1, h2, h3, h4⟩
  · cases hv
  · injection hv with a1 a2 a3
    injection a1 with a1
    injection a1 with a1 _ _
    subst a1 a3 a2
    exact ⟨cur1.toList, by simpa using hg1, by simpa using h3, h1⟩

/-! the state -/
def natV (l : List Nat) : List Int := l.map (fun p : Nat => (p : Int))
/-- cells, pivots and factors: the rows of a factor are nowhere in what is written -/
structure ElS (w : World) (B : Nat) (v : Value) (R C : Nat) (e : El) (pv fv : Value) (xs ps : List (Value × Value)) : Prop where
  V : OwnV w B v (tabM R C e.g) xs
  P : OwnI w B pv (natV e.piv)
  F : w.ownsRow B 34 3 fv e.fac.length (flat e.fac ps)
  plen : ps.length = e.fac.length
  fr : ∀ i (h : i < e.fac.length) (h' : i < ps.length), RowR w (ps[i]'h').1 (e.fac[i]'h).mag (ps[i]'h').2 (e.fac[i]'h).den
  lt : ∀ q ∈ ps, ∀ k, (q.1.ownBlock = some k ∨ q.2.ownBlock = some k) → k < w.heap.size
  vp : ∀ k, OnV v xs k → pv.ownBlock ≠ some k
  vf : ∀ k, OnV v xs k → fv.ownBlock ≠ some k
  pf : ∀ k, pv.ownBlock = some k → fv.ownBlock ≠ some k
  qv : ∀ q ∈ ps, ∀ k, (q.1.ownBlock = some k ∨ q.2.ownBlock = some k) → v.ownBlock ≠ some k ∧ pv.ownBlock ≠ some k ∧ fv.ownBlock ≠ some k
/-- its blocks -/
def OnE (v pv fv : Value) (xs ps : List (Value × Value)) (k : Nat) : Prop := OnV v xs k ∨ pv.ownBlock = some k ∨ OnV fv ps k
section
variable {w w' : World} {B : Nat} {v : Value} {R C : Nat} {e : El} {pv fv : Value} {xs ps : List (Value × Value)}
theorem ElS.kept {S : Nat → Prop} (h : ElS w B v R C e pv fv xs ps) (hk : Kept S w w') (hne : ∀ k, OnE v pv fv xs ps k → ¬ S k) : ElS w' B v R C e pv fv xs ps :=
  ⟨h.V.kept hk (fun k e => hne k (.inl e)), h.P.kept hk (fun k e => hne k (.inr (.inl e))), rowV_kept h.F hk (fun k e => hne k (.inr (.inr (.inl e)))), h.plen,
    fun i hi hi' => (h.fr i hi hi').keptS hk (fun k e => hne k (.inr (.inr (.inr ⟨_, List.getElem_mem hi', e⟩)))), fun q hq k e => Nat.lt_of_lt_of_le (h.lt q hq k e) hk.size, h.vp, h.vf, h.pf, h.qv⟩
theorem ElS.below (h : ElS w B v R C e pv fv xs ps) (hb : Below w.heap.size w w') : ElS w' B v R C e pv fv xs ps := h.kept (S := fun _ => False) (Kept.of_below hb) (fun _ _ h => h)
theorem ElS.base {B' : Nat} (h : ElS w B v R C e pv fv xs ps) (hB : B' ≤ B) : ElS w B' v R C e pv fv xs ps := ⟨h.V.base hB, h.P.base hB, h.F.mono hB, h.plen, h.fr, h.lt, h.vp, h.vf, h.pf, h.qv⟩
theorem ElS.drew (h : ElS w B v R C e pv fv xs ps) : ElS w.drew B v R C e pv fv xs ps := ⟨h.V.drew, h.P, h.F, h.plen, h.fr, h.lt, h.vp, h.vf, h.pf, h.qv⟩
/-- what a change of the cells alone leaves -/
theorem ElS.cells {g' : Mx} {xs' : List (Value × Value)} {S : Nat → Prop} (h : ElS w B v R C e pv fv xs ps) (hv : OwnV w' B v (tabM R C g') xs') (hk : Kept S w w') (hS : ∀ k, S k → v.ownBlock = some k ∨ w.heap.size ≤ k) (hx : ∀ k, OnV v xs' k → OnV v xs k ∨ w.heap.size ≤ k) :
    ElS w' B v R C ⟨g', e.piv, e.fac⟩ pv fv xs' ps := by
  have hp : ∀ k, pv.ownBlock = some k → ¬ S k := fun k e hs => by
    rcases hS k hs with h1 | h1
    · exact h.vp k (.inl h1) e
    · have := (h.P.lt k e).2; omega
  have hf : ∀ k, fv.ownBlock = some k → ¬ S k := fun k e hs => by
    rcases hS k hs with h1 | h1
    · exact h.vf k (.inl h1) e
    · have := (h.F.lt k e).2; omega
  refine ⟨hv, h.P.kept hk hp, rowV_kept h.F hk hf, h.plen, fun i hi hi' => (h.fr i hi hi').keptS hk (fun k e hs => ?_), fun q hq k e => Nat.lt_of_lt_of_le (h.lt q hq k e) hk.size, fun k hk1 e => ?_, fun k hk1 e => ?_, h.pf, h.qv⟩
  · rcases hS k hs with h1 | h1
    · exact (h.qv _ (List.getElem_mem hi') k e).1 h1
    · have := h.lt _ (List.getElem_mem hi') k e; omega
  · rcases hx k hk1 with h1 | h1
    · exact h.vp k h1 e
    · have := (h.P.lt k e).2; omega
  · rcases hx k hk1 with h1 | h1
    · exact h.vf k h1 e
    · have := (h.F.lt k e).2; omega
/-- a pivot appended -/
theorem ElS.addP {pv' : Value} {k : Nat} (h : ElS w B v R C e pv fv xs ps) (hg : w.grownBy w' pv.ownBlock) (ho : OwnI w' B pv' (natV (e.piv ++ [k]))) (hb : ∀ j, pv'.ownBlock = some j → pv.ownBlock = some j ∨ w.heap.size ≤ j) :
    ElS w' B v R C ⟨e.g, e.piv ++ [k], e.fac⟩ pv' fv xs ps := by
  have hk := Kept.of_grown hg
  have hlt := h.V.lt
  refine ⟨h.V.kept hk (fun j e => h.vp j e), ho, rowV_kept h.F hk (fun j e e' => h.pf j e' e), h.plen, fun i hi hi' => (h.fr i hi hi').keptS hk (fun j e e' => (h.qv _ (List.getElem_mem hi') j e).2.1 e'), fun q hq j e => Nat.lt_of_lt_of_le (h.lt q hq j e) hk.size, fun j hj e => ?_, h.vf, fun j e e' => ?_, fun q hq j e => ⟨(h.qv q hq j e).1, fun e' => ?_, (h.qv q hq j e).2.2⟩⟩
  · rcases hb j e with h1 | h1
    · exact h.vp j hj h1
    · have := (hlt j hj).2; omega
  · rcases hb j e with h1 | h1
    · exact h.pf j h1 e'
    · have := (h.F.lt j e').2; omega
  · rcases hb j e' with h1 | h1
    · exact (h.qv q hq j e).2.1 h1
    · have := h.lt q hq j e; omega
/-- a factor appended -/
theorem ElS.addF {fv' x y : Value} {f : Fr} (h : ElS w B v R C e pv fv xs ps) (hg : w.grownBy w' fv.ownBlock) (ho : w'.ownsRow B 34 3 fv' (e.fac.length + 1) (flat e.fac ps ++ [.bool f.neg, x, y])) (hb : ∀ j, fv'.ownBlock = some j → fv.ownBlock = some j ∨ w.heap.size ≤ j)
    (hr : RowR w x f.mag y f.den) (hl : ∀ k, (x.ownBlock = some k ∨ y.ownBlock = some k) → k < w.heap.size ∧ v.ownBlock ≠ some k ∧ pv.ownBlock ≠ some k ∧ fv.ownBlock ≠ some k) :
    ElS w' B v R C ⟨e.g, e.piv, e.fac ++ [f]⟩ pv fv' xs (ps ++ [(x, y)]) := by
  have hk := Kept.of_grown hg
  have hlt := h.V.lt
  have hpl := h.plen
  refine ⟨h.V.kept hk (fun j e => h.vf j e), h.P.kept hk (fun j e e' => h.pf j e e'), ?_, by simp [hpl], fun i hi hi' => ?_, fun q hq j e => ?_, h.vp, fun j hj e => ?_, fun j e e' => ?_, fun q hq j e => ?_⟩
  · rw [flat_snoc _ _ _ _ hpl, List.length_append]; exact ho
  · by_cases h1 : i < e.fac.length
    · have h1' : i < ps.length := by omega
      simp only [List.getElem_append_left h1, List.getElem_append_left h1']
      exact (h.fr i h1 h1').keptS hk (fun j e e' => (h.qv _ (List.getElem_mem h1') j e).2.2 e')
    · have h2 : i = e.fac.length := by simp at hi; omega
      subst h2
      simp only [List.getElem_concat_length]
      have h3 : (ps ++ [(x, y)])[e.fac.length]'hi' = (x, y) := by
        rw [List.getElem_append_right (by omega)]; simp [hpl]
      rw [h3]
      exact hr.keptS hk (fun j e e' => (hl j e).2.2.2 e')
  · rcases List.mem_append.1 hq with hq | hq
    · exact Nat.lt_of_lt_of_le (h.lt q hq j e) hk.size
    · obtain rfl := List.mem_singleton.1 hq
      exact Nat.lt_of_lt_of_le (hl j e).1 hk.size
  · rcases hb j e with h1 | h1
    · exact h.vf j hj h1
    · have := (hlt j hj).2; omega
  · rcases hb j e' with h1 | h1
    · exact h.pf j e h1
    · have := (h.P.lt j e).2; omega
  · rcases List.mem_append.1 hq with hq | hq
    · refine ⟨(h.qv q hq j e).1, (h.qv q hq j e).2.1, fun e' => ?_⟩
      rcases hb j e' with h1 | h1
      · exact (h.qv q hq j e).2.2 h1
      · have := h.lt q hq j e; omega
    · obtain rfl := List.mem_singleton.1 hq
      refine ⟨(hl j e).2.1, (hl j e).2.2.1, fun e' => ?_⟩
      rcases hb j e' with h1 | h1
      · exact (hl j e).2.2.2 h1
      · have := (hl j e).1; omega
/-- the factors read -/
theorem ElS.facs (h : ElS w B v R C e pv fv xs ps) : RatsAt w fv e.fac := by
  have hl := h.plen
  rcases h.F.2 with ⟨rfl, hn⟩ | ⟨g, cap, cur, rfl, hB, hg, h1, h2, h3, h4⟩
  · exact ⟨none, 0, by rw [hn], by omega, by unfold maxLen; omega, fun i hi => by omega⟩
  · refine ⟨_, cap, rfl, h1, h2, fun i hi => ?_⟩
    have hi' : i < ps.length := by omega
    obtain ⟨f0, f1, f2⟩ := flat_at e.fac ps i hi hi'
    have hc := h.F.cellAt
    refine ⟨g, 0, _, _, rfl, ?_, ?_, ?_, h.fr i hi hi'⟩
    · rw [Nat.zero_add]; exact (hc _ (by omega)).trans f0
    · rw [Nat.zero_add]; exact (hc _ (by omega)).trans f1
    · rw [Nat.zero_add]; exact (hc _ (by omega)).trans f2
/-- an element's rows are on no row that is appended to -/
theorem ElS.elem (h : ElS w B v R C e pv fv xs ps) {j : Nat} (hj : j < xs.length) : ∀ k, ((xs[j]'hj).1.ownBlock = some k ∨ (xs[j]'hj).2.ownBlock = some k) → k < w.heap.size ∧ v.ownBlock ≠ some k ∧ pv.ownBlock ≠ some k ∧ fv.ownBlock ≠ some k := fun k e =>
  ⟨(h.V.lt k (.inr ⟨_, List.getElem_mem hj, e⟩)).2, h.V.ne_row j hj k e, h.vp k (.inr ⟨_, List.getElem_mem hj, e⟩), h.vf k (.inr ⟨_, List.getElem_mem hj, e⟩)⟩
theorem ElS.lt_all (h : ElS w B v R C e pv fv xs ps) : ∀ k, OnE v pv fv xs ps k → k < w.heap.size := by
  rintro k (e | e | e | ⟨q, hq, e⟩)
  · exact (h.V.lt k e).2
  · exact (h.P.lt k e).2
  · exact (h.F.lt k e).2
  · exact h.lt q hq k e
end
/-- the swapped pairs are the pairs -/
theorem onV_swap {v : Value} {xs : List (Value × Value)} {i j : Nat} (hi : i < xs.length) (hj : j < xs.length) : ∀ k, OnV v ((xs.set i (xs[j]'hj)).set j (xs[i]'hi)) k → OnV v xs k := by
  rintro k (e | ⟨q, hq, e⟩)
  · exact .inl e
  · refine .inr ⟨q, ?_, e⟩
    rcases List.mem_or_eq_of_mem_set hq with h | rfl
    · rcases List.mem_or_eq_of_mem_set h with h | rfl
      · exact h
      · exact List.getElem_mem _
    · exact List.getElem_mem _
theorem onV_set {v : Value} {xs : List (Value × Value)} {i n : Nat} {x y : Value} (hb : ∀ k, (x.ownBlock = some k ∨ y.ownBlock = some k) → n ≤ k) : ∀ k, OnV v (xs.set i (x, y)) k → OnV v xs k ∨ n ≤ k := by
  rintro k (e | ⟨q, hq, e⟩)
  · exact .inl (.inl e)
  · rcases List.mem_or_eq_of_mem_set hq with h | rfl
    · exact .inl (.inr ⟨q, h, e⟩)
    · exact .inr (hb k e)
theorem onV_spl {v : Value} {xs ys : List (Value × Value)} {o n : Nat} (hb : ∀ q ∈ ys, ∀ k, (q.1.ownBlock = some k ∨ q.2.ownBlock = some k) → n ≤ k) : ∀ k, OnV v (spl xs o ys) k → OnV v xs k ∨ n ≤ k := by
  rintro k (e | ⟨q, hq, e⟩)
  · exact .inl (.inl e)
  · unfold spl at hq
    rcases List.mem_append.1 hq with hq | hq
    · rcases List.mem_append.1 hq with hq | hq
      · exact .inl (.inr ⟨q, List.mem_of_mem_take hq, e⟩)
      · exact .inr (hb q hq k e)
    · exact .inl (.inr ⟨q, List.mem_of_mem_drop hq, e⟩)
end Go.Proofs.YtlepgkkpopjgoaaGreat
