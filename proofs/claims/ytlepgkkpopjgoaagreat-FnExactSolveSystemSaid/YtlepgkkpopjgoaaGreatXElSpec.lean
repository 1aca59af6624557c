/- ElMem ElClr ElApp VecComb MatLens ElRed ElSpec. -/
import Derived.Test.YtlepgkkpopjgoaaGreatXElDiv
import Derived.Test.YtlepgkkpopjgoaaGreatXVecZero
import Derived.Test.YtlepgkkpopjgoaaGreatXVecOk
import Derived.Test.YtlepgkkpopjgoaaGreatXQuot2
import Derived.Laws.CopyOwn
import Derived.Test.YtlepgkkpopjgoaaGreatXMatId
import Derived.Deep.RegionHeld3
import Derived.Test.YtlepgkkpopjgoaaGreatXRatOk
import Derived.Test.YtlepgkkpopjgoaaGreatXSpecCopy
import Derived.BigRegion
namespace Go.Proofs.YtlepgkkpopjgoaaGreat
open Go.RowKit Go.WideShapes Go.ChangeShapes
set_option linter.unusedVariables false
set_option linter.unusedSimpArgs false
theorem rowOf_keptS {w w' : World} {S : Nat → Prop} {v : Value} {l : List Int} (h : RowOf iV w v l) (hk : Kept S w w') (hne : ∀ g, v.ownBlock = some g → ¬ S g) : RowOf iV w' v l := by
 obtain ⟨a, cap, rfl, h1, h2, h3⟩ := h
 refine ⟨a, cap, rfl, h1, h2, fun i hi => ?_⟩
 obtain ⟨b, o, rfl, hc⟩ := h3 i hi
 exact ⟨b, o, rfl, (World.cell?_of_block (hk.block b (World.block_lt_of_cell? w _ hc) (hne b rfl))).trans hc⟩
theorem RowR.keptS {w w' : World} {S : Nat → Prop} {v d : Value} {zs ds : List Int} (h : RowR w v zs d ds) (hk : Kept S w w') (hne : ∀ g, (v.ownBlock = some g ∨ d.ownBlock = some g) → ¬ S g) : RowR w' v zs d ds :=
 ⟨rowOf_keptS h.1 hk (fun g e => hne g (.inl e)), rowOf_keptS h.2 hk (fun g e => hne g (.inr e))⟩
theorem OwnV.swap {w : World} {B g n c : Nat} {L : List Fr} {xs : List (Value × Value)} (h : OwnV w B (.slice (some ⟨g, 0, none⟩) n c) L xs) (i j : Nat) (hi : i < L.length) (hj : j < L.length) (hi' : i < xs.length) (hj' : j < xs.length) :
  OwnV ((((((w.setCell ⟨g, i * 3, none⟩ (.bool (L[j]'hj).neg)).setCell ⟨g, i * 3 + 1, none⟩ (xs[j]'hj').1).setCell ⟨g, i * 3 + 2, none⟩ (xs[j]'hj').2).setCell ⟨g, j * 3, none⟩ (.bool (L[i]'hi).neg)).setCell ⟨g, j * 3 + 1, none⟩ (xs[i]'hi').1).setCell ⟨g, j * 3 + 2, none⟩ (xs[i]'hi').2)
   B (.slice (some ⟨g, 0, none⟩) n c) ((L.set i (L[j]'hj)).set j (L[i]'hi)) ((xs.set i (xs[j]'hj')).set j (xs[i]'hi')) := by
 have e := h.count
 subst e
 have hk := ((((kept_set w g (i * 3) (.bool (L[j]'hj).neg)).trans (kept_set _ g (i * 3 + 1) (xs[j]'hj').1)).trans (kept_set _ g (i * 3 + 2) (xs[j]'hj').2)).trans (kept_set _ g (j * 3) (.bool (L[i]'hi).neg))).trans ((kept_set _ g (j * 3 + 1) (xs[i]'hi').1).trans (kept_set _ g (j * 3 + 2) (xs[i]'hi').2))
 have key : ∀ a, a < L.length → ∃ b, ∃ (hb : b < L.length) (hb' : b < xs.length), (∀ (ha : a < ((L.set i (L[j]'hj)).set j (L[i]'hi)).length), ((L.set i (L[j]'hj)).set j (L[i]'hi))[a]'ha = L[b]'hb) ∧ (∀ (ha : a < ((xs.set i (xs[j]'hj')).set j (xs[i]'hi')).length), ((xs.set i (xs[j]'hj')).set j (xs[i]'hi'))[a]'ha = xs[b]'hb') ∧ b = (if a = j then i else if a = i then j else a) := by
  intro a ha
  by_cases h1 : a = j
  ·subst h1; exact ⟨i, hi, hi', fun _ => by simp, fun _ => by simp, by simp⟩
  ·by_cases h2 : a = i
   ·subst h2
    exact ⟨j, hj, hj', fun _ => by rw [List.getElem_set_ne (fun e => h1 e.symm)]; simp, fun _ => by rw [List.getElem_set_ne (fun e => h1 e.symm)]; simp, by rw [if_neg h1, if_pos rfl]⟩
   ·exact ⟨a, ha, by have := h.len; omega, fun _ => by rw [List.getElem_set_ne (fun e => h1 e.symm), List.getElem_set_ne (fun e => h2 e.symm)], fun _ => by rw [List.getElem_set_ne (fun e => h1 e.symm), List.getElem_set_ne (fun e => h2 e.symm)], by rw [if_neg h1, if_neg h2]⟩
 refine ⟨by simp [h.len], ?_, fun a ha ha' => ?_, fun a b ha hb hab r r' e1 e2 => ?_⟩
 ·have h1 := (((((((h.row.stored (i * 3) (.bool (L[j]'hj).neg)).1).stored (i * 3 + 1) (xs[j]'hj').1).1.stored (i * 3 + 2) (xs[j]'hj').2).1.stored (j * 3) (.bool (L[i]'hi).neg)).1.stored (j * 3 + 1) (xs[i]'hi').1).1.stored (j * 3 + 2) (xs[i]'hi').2).1
  rw [flat_set3 L xs i (L[j]'hj) (xs[j]'hj') hi h.len, flat_set3 _ _ j (L[i]'hi) (xs[i]'hi') (by simpa using hj) (by simp [h.len])] at h1
  rw [List.length_set, List.length_set]; exact h1
 ·obtain ⟨b, hb, hb', k1, k2, _⟩ := key a (by simpa using ha)
  rw [k1 ha, k2 ha']
  exact (h.each b hb hb').kept hk (fun g' e hg => h.ne_row b hb' g' e (by rw [hg]; rfl))
 ·have hla : a < L.length := by have := h.len; simp at ha; omega
  have hlb : b < L.length := by have := h.len; simp at hb; omega
  obtain ⟨a2, ha2, ha2', _, k2, ea⟩ := key a hla
  obtain ⟨b2, hb2, hb2', _, l2, eb⟩ := key b hlb
  rw [k2 ha] at e1
  rw [l2 hb] at e2
  refine h.apart a2 b2 ha2' hb2' ?_ r r' e1 e2
  intro e3
  rw [ea, eb] at e3
  apply hab
  split at e3 <;> split at e3 <;> (try split at e3) <;> (try split at e3) <;> omega
theorem flat_app2 : ∀ (L M : List Fr) (xs ys : List (Value × Value)), xs.length = L.length → flat (L ++ M) (xs ++ ys) = flat L xs ++ flat M ys
 | [], M, [], ys, _ => rfl
 | x :: L, M, p :: xs, ys, h => by
  simp only [List.cons_append, flat, flat_app2 L M xs ys (by simpa using h)]
theorem flat_takeN (L : List Fr) (xs : List (Value × Value)) (o : Nat) (h : xs.length = L.length) : (flat L xs).take (o * 3) = flat (L.take o) (xs.take o) := by
 have e : flat L xs = flat (L.take o) (xs.take o) ++ flat (L.drop o) (xs.drop o) := by
  rw [← flat_app2 _ _ _ _ (by simp [h]), List.take_append_drop, List.take_append_drop]
 have hl := flat_len (L.take o) (xs.take o) (by simp [h])
 rw [e]
 rcases Nat.lt_or_ge L.length o with h1 | h1
 ·have h2 : L.drop o = [] := List.drop_eq_nil_of_le (by omega)
  have h3 : xs.drop o = [] := List.drop_eq_nil_of_le (by omega)
  rw [h2, h3]
  show (flat (L.take o) (xs.take o) ++ []).take (o * 3) = _
  rw [List.append_nil, List.take_of_length_le (by rw [hl, List.length_take]; omega)]
 ·rw [List.take_append_of_le_length (by rw [hl, List.length_take]; omega), List.take_of_length_le (by rw [hl, List.length_take]; omega)]
theorem flat_dropN (L : List Fr) (xs : List (Value × Value)) (o : Nat) (h : xs.length = L.length) (ho : o ≤ L.length) : (flat L xs).drop (o * 3) = flat (L.drop o) (xs.drop o) := by
 have e : flat L xs = flat (L.take o) (xs.take o) ++ flat (L.drop o) (xs.drop o) := by
  rw [← flat_app2 _ _ _ _ (by simp [h]), List.take_append_drop, List.take_append_drop]
 have hl := flat_len (L.take o) (xs.take o) (by simp [h])
 rw [e, List.drop_append, List.drop_eq_nil_of_le (by rw [hl, List.length_take]; omega), hl, List.length_take, Nat.min_eq_left ho, Nat.sub_self, List.drop_zero, List.nil_append]
def spl {α : Type} (L : List α) (o : Nat) (M : List α) : List α := L.take o ++ M ++ L.drop (o + M.length)
theorem spl_len {α : Type} {L M : List α} {o : Nat} (h : o + M.length ≤ L.length) : (spl L o M).length = L.length := by simp [spl]; omega
theorem spl_get {α : Type} {L M : List α} {o j : Nat} (h : o + M.length ≤ L.length) (hj : j < (spl L o M).length) :
  (spl L o M)[j]'hj = if h1 : o ≤ j ∧ j < o + M.length then M[j - o]'(by omega) else L[j]'(by rw [spl_len h] at hj; exact hj) := by
 have hj2 : j < L.length := by rw [spl_len h] at hj; exact hj
 apply Option.some.inj
 rw [← List.getElem?_eq_getElem hj]
 unfold spl
 by_cases h1 : j < o
 ·rw [dif_neg (by omega), List.getElem?_append_left (by simp; omega), List.getElem?_append_left (by simp; omega), List.getElem?_take_of_lt h1, List.getElem?_eq_getElem hj2]
 ·by_cases h2 : j < o + M.length
  ·rw [dif_pos ⟨by omega, h2⟩, List.getElem?_append_left (by simp; omega), List.getElem?_append_right (by simp; omega), List.length_take, Nat.min_eq_left (by omega), List.getElem?_eq_getElem]
  ·rw [dif_neg (by omega), List.getElem?_append_right (by simp; omega), List.getElem?_drop, List.length_append, List.length_take, Nat.min_eq_left (by omega), show o + M.length + (j - (o + M.length)) = j by omega, List.getElem?_eq_getElem hj2]
theorem OwnV.splice {w : World} {B g n c o : Nat} {L M : List Fr} {xs ys : List (Value × Value)} {cur : List Value} (h : OwnV w B (.slice (some ⟨g, 0, none⟩) n c) L xs)
  (hg : w.heap[g]? = some (.cells cur.toArray 34 (0, 0))) (hl : ys.length = M.length) (ho : o + M.length ≤ L.length)
  (he : ∀ i (h1 : i < M.length) (h2 : i < ys.length), OwnR w B (ys[i]'h2).1 (M[i]'h1).mag (ys[i]'h2).2 (M[i]'h1).den)
  (ha : ∀ i j (hi : i < ys.length) (hj : j < ys.length), i ≠ j → ∀ r r', ((ys[i]'hi).1.ownBlock = some r ∨ (ys[i]'hi).2.ownBlock = some r) → ((ys[j]'hj).1.ownBlock = some r' ∨ (ys[j]'hj).2.ownBlock = some r') → r ≠ r')
  (hx : ∀ p ∈ xs, ∀ q ∈ ys, ∀ r r', (p.1.ownBlock = some r ∨ p.2.ownBlock = some r) → (q.1.ownBlock = some r' ∨ q.2.ownBlock = some r') → r ≠ r')
  (hn : ∀ q ∈ ys, ∀ r, (q.1.ownBlock = some r ∨ q.2.ownBlock = some r) → r ≠ g) :
  OwnV (w.setRow g (cur.take (o * 3) ++ flat M ys ++ cur.drop (o * 3 + (flat M ys).length)).toArray) B (.slice (some ⟨g, 0, none⟩) n c) (spl L o M) (spl xs o ys) ∧
   Kept (fun k => k = g) w (w.setRow g (cur.take (o * 3) ++ flat M ys ++ cur.drop (o * 3 + (flat M ys).length)).toArray) := by
 have e := h.count
 subst e
 have hk : Kept (fun k => k = g) w (w.setRow g (cur.take (o * 3) ++ flat M ys ++ cur.drop (o * 3 + (flat M ys).length)).toArray) := (Kept.of_grown (setRow_grown w g _)).mono (fun k e => by simpa using e.symm)
 have hfl := flat_len M ys hl
 have hxl := h.len
 have hox : o + ys.length ≤ xs.length := by omega
 refine ⟨⟨by rw [spl_len ho, spl_len hox, hxl], ?_, fun j hj hj' => ?_, fun i j hi hj hij r r' e1 e2 => ?_⟩, hk⟩
 ·rw [spl_len ho]
  rcases h.row.2 with ⟨hv, _⟩ | ⟨g1, cap, cur1, hv, hB, hg1, h1, h2, h3, h4⟩
  ·cases hv
  ·injection hv with a1 a2 a3
   injection a1 with a1
   injection a1 with a1 _ _
   subst a1 a3
   rw [hg] at hg1
   injection hg1 with hg1
   injection hg1 with hg1 _ _
   subst hg1
   simp only [List.size_toArray] at h3
   refine ⟨by rw [flat_len _ _ (by rw [spl_len ho, spl_len hox, hxl]), spl_len ho], .inr ⟨g, c, _, rfl, hB, setRow_heap w g _ _ _ _ hg, h1, h2, ?_, ?_⟩⟩
   ·simp only [List.size_toArray, List.length_append, List.length_take, List.length_drop, hfl]; omega
   ·simp only at h4
    have e5 : flat (spl L o M) (spl xs o ys) = (flat L xs).take (o * 3) ++ flat M ys ++ (flat L xs).drop ((o + M.length) * 3) := by
     unfold spl
     rw [flat_app2 _ _ _ _ (by simp [hxl, hl]), flat_app2 _ _ _ _ (by simp [hxl]), flat_takeN _ _ _ hxl, hl, flat_dropN _ _ _ hxl ho]
    rw [e5, ← h4, hfl]
    rw [List.take_append, List.take_of_length_le (l := List.take (o * 3) cur ++ flat M ys) (by simp only [List.length_append, List.length_take, hfl]; omega)]
    congr 1
    ·rw [List.take_take, Nat.min_eq_left (by omega)]
    ·rw [List.drop_take, show o * 3 + M.length * 3 = (o + M.length) * 3 by omega]
     congr 1
     simp only [List.length_append, List.length_take, hfl]; omega
 ·rw [spl_len ho] at hj
  rw [spl_len hox] at hj'
  rw [spl_get ho, spl_get hox]
  by_cases h1 : o ≤ j ∧ j < o + M.length
  ·rw [dif_pos h1, dif_pos (by omega)]
   exact (he (j - o) (by omega) (by omega)).kept hk (fun r e => hn _ (List.getElem_mem _) r e)
  ·rw [dif_neg h1, dif_neg (by omega)]
   exact (h.each j hj hj').kept hk (fun r e hr => h.ne_row j hj' r e (by rw [hr]; rfl))
 ·rw [spl_len hox] at hi hj
  rw [spl_get hox] at e1
  rw [spl_get hox] at e2
  by_cases h1 : o ≤ i ∧ i < o + ys.length
  ·rw [dif_pos h1] at e1
   by_cases h2 : o ≤ j ∧ j < o + ys.length
   ·rw [dif_pos h2] at e2
    exact ha _ _ _ _ (by omega) r r' e1 e2
   ·rw [dif_neg h2] at e2
    exact (hx _ (List.getElem_mem _) _ (List.getElem_mem _) r' r e2 e1).symm
  ·rw [dif_neg h1] at e1
   by_cases h2 : o ≤ j ∧ j < o + ys.length
   ·rw [dif_pos h2] at e2
    exact hx _ (List.getElem_mem _) _ (List.getElem_mem _) r r' e1 e2
   ·rw [dif_neg h2] at e2
    exact h.apart i j hi hj hij r r' e1 e2
theorem OwnV.block {w : World} {B g n c : Nat} {L : List Fr} {xs : List (Value × Value)} (h : OwnV w B (.slice (some ⟨g, 0, none⟩) n c) L xs) :
  ∃ cur : List Value, w.heap[g]? = some (.cells cur.toArray 34 (0, 0)) ∧ cur.length = c * 3 ∧ n ≤ c := by
 rcases h.row.2 with ⟨hv, _⟩ | ⟨g1, cap, cur1, hv, hB, hg1, h1, h2, h3, h4⟩
 ·cases hv
 ·injection hv with a1 a2 a3
  injection a1 with a1
  injection a1 with a1 _ _
  subst a1 a3 a2
  exact ⟨cur1.toList, by simpa using hg1, by simpa using h3, h1⟩
def natV (l : List Nat) : List Int := l.map (fun p : Nat => (p : Int))
structure ElS (w : World) (B : Nat) (v : Value) (R C : Nat) (e : El) (pv fv : Value) (xs ps : List (Value × Value)) : Prop where
 V : OwnV w B v (tabM R C e.g) xs
 P : OwnI w B pv (natV e.piv)
 F : w.ownsRow B 34 3 fv e.fac.length (flat e.fac ps)
 plen : ps.length = e.fac.length
 fr : ∀ i (h : i < e.fac.length) (h' : i < ps.length), RowR w (ps[i]'h').1 (e.fac[i]'h).mag (ps[i]'h').2 (e.fac[i]'h).den
 lt : ∀ q ∈ ps, ∀ k, (q.1.ownBlock = some k ∨ q.2.ownBlock = some k) → k < w.heap.size
 vp : ∀ k, OnV v xs k → pv.ownBlock ≠ some k
 vf : ∀ k, OnV v xs k → fv.ownBlock ≠ some k
 pf : ∀ k, pv.ownBlock = some k → fv.ownBlock ≠ some k
 qv : ∀ q ∈ ps, ∀ k, (q.1.ownBlock = some k ∨ q.2.ownBlock = some k) → v.ownBlock ≠ some k ∧ pv.ownBlock ≠ some k ∧ fv.ownBlock ≠ some k
def OnE (v pv fv : Value) (xs ps : List (Value × Value)) (k : Nat) : Prop := OnV v xs k ∨ pv.ownBlock = some k ∨ OnV fv ps k
section
variable {w w' : World} {B : Nat} {v : Value} {R C : Nat} {e : El} {pv fv : Value} {xs ps : List (Value × Value)}
theorem ElS.kept {S : Nat → Prop} (h : ElS w B v R C e pv fv xs ps) (hk : Kept S w w') (hne : ∀ k, OnE v pv fv xs ps k → ¬ S k) : ElS w' B v R C e pv fv xs ps :=
 ⟨h.V.kept hk (fun k e => hne k (.inl e)), h.P.kept hk (fun k e => hne k (.inr (.inl e))), rowV_kept h.F hk (fun k e => hne k (.inr (.inr (.inl e)))), h.plen,
  fun i hi hi' => (h.fr i hi hi').keptS hk (fun k e => hne k (.inr (.inr (.inr ⟨_, List.getElem_mem hi', e⟩)))), fun q hq k e => Nat.lt_of_lt_of_le (h.lt q hq k e) hk.size, h.vp, h.vf, h.pf, h.qv⟩
theorem ElS.below (h : ElS w B v R C e pv fv xs ps) (hb : Below w.heap.size w w') : ElS w' B v R C e pv fv xs ps := h.kept (S := fun _ => False) (Kept.of_below hb) (fun _ _ h => h)
theorem ElS.base {B' : Nat} (h : ElS w B v R C e pv fv xs ps) (hB : B' ≤ B) : ElS w B' v R C e pv fv xs ps := ⟨h.V.base hB, h.P.base hB, h.F.mono hB, h.plen, h.fr, h.lt, h.vp, h.vf, h.pf, h.qv⟩
theorem ElS.drew (h : ElS w B v R C e pv fv xs ps) : ElS w.drew B v R C e pv fv xs ps := ⟨h.V.drew, h.P, h.F, h.plen, h.fr, h.lt, h.vp, h.vf, h.pf, h.qv⟩
theorem ElS.cells {g' : Mx} {xs' : List (Value × Value)} {S : Nat → Prop} (h : ElS w B v R C e pv fv xs ps) (hv : OwnV w' B v (tabM R C g') xs') (hk : Kept S w w') (hS : ∀ k, S k → v.ownBlock = some k ∨ w.heap.size ≤ k) (hx : ∀ k, OnV v xs' k → OnV v xs k ∨ w.heap.size ≤ k) :
  ElS w' B v R C ⟨g', e.piv, e.fac⟩ pv fv xs' ps := by
 have hp : ∀ k, pv.ownBlock = some k → ¬ S k := fun k e hs => by
  rcases hS k hs with h1 | h1
  ·exact h.vp k (.inl h1) e
  ·have := (h.P.lt k e).2; omega
 have hf : ∀ k, fv.ownBlock = some k → ¬ S k := fun k e hs => by
  rcases hS k hs with h1 | h1
  ·exact h.vf k (.inl h1) e
  ·have := (h.F.lt k e).2; omega
 refine ⟨hv, h.P.kept hk hp, rowV_kept h.F hk hf, h.plen, fun i hi hi' => (h.fr i hi hi').keptS hk (fun k e hs => ?_), fun q hq k e => Nat.lt_of_lt_of_le (h.lt q hq k e) hk.size, fun k hk1 e => ?_, fun k hk1 e => ?_, h.pf, h.qv⟩
 ·rcases hS k hs with h1 | h1
  ·exact (h.qv _ (List.getElem_mem hi') k e).1 h1
  ·have := h.lt _ (List.getElem_mem hi') k e; omega
 ·rcases hx k hk1 with h1 | h1
  ·exact h.vp k h1 e
  ·have := (h.P.lt k e).2; omega
 ·rcases hx k hk1 with h1 | h1
  ·exact h.vf k h1 e
  ·have := (h.F.lt k e).2; omega
theorem ElS.addP {pv' : Value} {k : Nat} (h : ElS w B v R C e pv fv xs ps) (hg : w.grownBy w' pv.ownBlock) (ho : OwnI w' B pv' (natV (e.piv ++ [k]))) (hb : ∀ j, pv'.ownBlock = some j → pv.ownBlock = some j ∨ w.heap.size ≤ j) :
  ElS w' B v R C ⟨e.g, e.piv ++ [k], e.fac⟩ pv' fv xs ps := by
 have hk := Kept.of_grown hg
 have hlt := h.V.lt
 refine ⟨h.V.kept hk (fun j e => h.vp j e), ho, rowV_kept h.F hk (fun j e e' => h.pf j e' e), h.plen, fun i hi hi' => (h.fr i hi hi').keptS hk (fun j e e' => (h.qv _ (List.getElem_mem hi') j e).2.1 e'), fun q hq j e => Nat.lt_of_lt_of_le (h.lt q hq j e) hk.size, fun j hj e => ?_, h.vf, fun j e e' => ?_, fun q hq j e => ⟨(h.qv q hq j e).1, fun e' => ?_, (h.qv q hq j e).2.2⟩⟩
 ·rcases hb j e with h1 | h1
  ·exact h.vp j hj h1
  ·have := (hlt j hj).2; omega
 ·rcases hb j e with h1 | h1
  ·exact h.pf j h1 e'
  ·have := (h.F.lt j e').2; omega
 ·rcases hb j e' with h1 | h1
  ·exact (h.qv q hq j e).2.1 h1
  ·have := h.lt q hq j e; omega
theorem ElS.addF {fv' x y : Value} {f : Fr} (h : ElS w B v R C e pv fv xs ps) (hg : w.grownBy w' fv.ownBlock) (ho : w'.ownsRow B 34 3 fv' (e.fac.length + 1) (flat e.fac ps ++ [.bool f.neg, x, y])) (hb : ∀ j, fv'.ownBlock = some j → fv.ownBlock = some j ∨ w.heap.size ≤ j)
  (hr : RowR w x f.mag y f.den) (hl : ∀ k, (x.ownBlock = some k ∨ y.ownBlock = some k) → k < w.heap.size ∧ v.ownBlock ≠ some k ∧ pv.ownBlock ≠ some k ∧ fv.ownBlock ≠ some k) :
  ElS w' B v R C ⟨e.g, e.piv, e.fac ++ [f]⟩ pv fv' xs (ps ++ [(x, y)]) := by
 have hk := Kept.of_grown hg
 have hlt := h.V.lt
 have hpl := h.plen
 refine ⟨h.V.kept hk (fun j e => h.vf j e), h.P.kept hk (fun j e e' => h.pf j e e'), ?_, by simp [hpl], fun i hi hi' => ?_, fun q hq j e => ?_, h.vp, fun j hj e => ?_, fun j e e' => ?_, fun q hq j e => ?_⟩
 ·rw [flat_snoc _ _ _ _ hpl, List.length_append]; exact ho
 ·by_cases h1 : i < e.fac.length
  ·have h1' : i < ps.length := by omega
   simp only [List.getElem_append_left h1, List.getElem_append_left h1']
   exact (h.fr i h1 h1').keptS hk (fun j e e' => (h.qv _ (List.getElem_mem h1') j e).2.2 e')
  ·have h2 : i = e.fac.length := by simp at hi; omega
   subst h2
   simp only [List.getElem_concat_length]
   have h3 : (ps ++ [(x, y)])[e.fac.length]'hi' = (x, y) := by
    rw [List.getElem_append_right (by omega)]; simp [hpl]
   rw [h3]
   exact hr.keptS hk (fun j e e' => (hl j e).2.2.2 e')
 ·rcases List.mem_append.1 hq with hq | hq
  ·exact Nat.lt_of_lt_of_le (h.lt q hq j e) hk.size
  ·obtain rfl := List.mem_singleton.1 hq
   exact Nat.lt_of_lt_of_le (hl j e).1 hk.size
 ·rcases hb j e with h1 | h1
  ·exact h.vf j hj h1
  ·have := (hlt j hj).2; omega
 ·rcases hb j e' with h1 | h1
  ·exact h.pf j e h1
  ·have := (h.P.lt j e).2; omega
 ·rcases List.mem_append.1 hq with hq | hq
  ·refine ⟨(h.qv q hq j e).1, (h.qv q hq j e).2.1, fun e' => ?_⟩
   rcases hb j e' with h1 | h1
   ·exact (h.qv q hq j e).2.2 h1
   ·have := h.lt q hq j e; omega
  ·obtain rfl := List.mem_singleton.1 hq
   refine ⟨(hl j e).2.1, (hl j e).2.2.1, fun e' => ?_⟩
   rcases hb j e' with h1 | h1
   ·exact (hl j e).2.2.2 h1
   ·have := (hl j e).1; omega
theorem ElS.elem (h : ElS w B v R C e pv fv xs ps) {j : Nat} (hj : j < xs.length) : ∀ k, ((xs[j]'hj).1.ownBlock = some k ∨ (xs[j]'hj).2.ownBlock = some k) → k < w.heap.size ∧ v.ownBlock ≠ some k ∧ pv.ownBlock ≠ some k ∧ fv.ownBlock ≠ some k := fun k e =>
 ⟨(h.V.lt k (.inr ⟨_, List.getElem_mem hj, e⟩)).2, h.V.ne_row j hj k e, h.vp k (.inr ⟨_, List.getElem_mem hj, e⟩), h.vf k (.inr ⟨_, List.getElem_mem hj, e⟩)⟩
theorem ElS.lt_all (h : ElS w B v R C e pv fv xs ps) : ∀ k, OnE v pv fv xs ps k → k < w.heap.size := by
 rintro k (e | e | e | ⟨q, hq, e⟩)
 ·exact (h.V.lt k e).2
 ·exact (h.P.lt k e).2
 ·exact (h.F.lt k e).2
 ·exact h.lt q hq k e
end
theorem onV_swap {v : Value} {xs : List (Value × Value)} {i j : Nat} (hi : i < xs.length) (hj : j < xs.length) : ∀ k, OnV v ((xs.set i (xs[j]'hj)).set j (xs[i]'hi)) k → OnV v xs k := by
 rintro k (e | ⟨q, hq, e⟩)
 ·exact .inl e
 ·refine .inr ⟨q, ?_, e⟩
  rcases List.mem_or_eq_of_mem_set hq with h | rfl
  ·rcases List.mem_or_eq_of_mem_set h with h | rfl
   ·exact h
   ·exact List.getElem_mem _
  ·exact List.getElem_mem _
theorem onV_set {v : Value} {xs : List (Value × Value)} {i n : Nat} {x y : Value} (hb : ∀ k, (x.ownBlock = some k ∨ y.ownBlock = some k) → n ≤ k) : ∀ k, OnV v (xs.set i (x, y)) k → OnV v xs k ∨ n ≤ k := by
 rintro k (e | ⟨q, hq, e⟩)
 ·exact .inl (.inl e)
 ·rcases List.mem_or_eq_of_mem_set hq with h | rfl
  ·exact .inl (.inr ⟨q, h, e⟩)
  ·exact .inr (hb k e)
theorem onV_spl {v : Value} {xs ys : List (Value × Value)} {o n : Nat} (hb : ∀ q ∈ ys, ∀ k, (q.1.ownBlock = some k ∨ q.2.ownBlock = some k) → n ≤ k) : ∀ k, OnV v (spl xs o ys) k → OnV v xs k ∨ n ≤ k := by
 rintro k (e | ⟨q, hq, e⟩)
 ·exact .inl (.inl e)
 ·unfold spl at hq
  rcases List.mem_append.1 hq with hq | hq
  ·rcases List.mem_append.1 hq with hq | hq
   ·exact .inl (.inr ⟨q, List.mem_of_mem_take hq, e⟩)
   ·exact .inr (hb q hq k e)
  ·exact .inl (.inr ⟨q, List.mem_of_mem_drop hq, e⟩)
end Go.Proofs.YtlepgkkpopjgoaaGreat
namespace Go.Proofs.YtlepgkkpopjgoaaGreat
open Go.RowKit Go.WideShapes Go.ChangeShapes
set_option linter.unusedVariables false
set_option linter.unusedSimpArgs false
set_option maxRecDepth 100000 in
set_option maxHeartbeats 1000000 in
theorem spec_atC (r : Int) (C i k n b o cap : Nat) (bb : Bool) (a1 : Option Addr) (n1 r1 : Nat) (a2 : Option Addr) (n2 r2 : Nat) (w : World) (hi : i * C + k < n) (hn : n ≤ 576)
  (k0 : w.cell? ⟨b, o + (i * C + k) * 3, none⟩ = some (.bool bb)) (k1 : w.cell? ⟨b, o + (i * C + k) * 3 + 1, none⟩ = some (.slice a1 n1 r1)) (k2 : w.cell? ⟨b, o + (i * C + k) * 3 + 2, none⟩ = some (.slice a2 n2 r2)) :
  Calls Tryz.prog 96 #[.agg #[.int .i64 r, .int .i64 (C : Int), .slice (some ⟨b, o, none⟩) n cap], .int .i64 (i : Int), .int .i64 (k : Int)] w fun e w' => e = .returned (.agg #[.bool bb, .slice a1 n1 r1, .slice a2 n2 r2]) ∧ Below w.heap.size w w' := by
 obtain ⟨l, hl⟩ : ∃ l, i * C = l := ⟨_, rfl⟩
 have p1 : (i : Int) * (C : Int) = (l : Int) := by rw [← hl, Int.natCast_mul]
 have p2 : (l : Int) + (k : Int) = ((l + k : Nat) : Int) := by omega
 rw [hl] at k0 k1 k2 hi
 clear hl
 obtain ⟨j, hj⟩ : ∃ j, l + k = j := ⟨_, rfl⟩
 rw [hj] at k0 k1 k2 hi p2
 clear hj
 have BA := Lib.hid (((Below.refl w.heap.size w).alloc (Nat.le_refl _) (.cells #[.int .i64 r, .int .i64 (C : Int), .slice (some ⟨b, o, none⟩) n cap] 25)).alloc (by simp) (.cells #[.bool false, .slice none 0 0, .slice none 0 0] 34))
 obtain ⟨W0, hW0⟩ : ∃ x, x = (w.alloc (.cells #[.int .i64 r, .int .i64 (C : Int), .slice (some ⟨b, o, none⟩) n cap] 25)).alloc (.cells #[.bool false, .slice none 0 0, .slice none 0 0] 34) := ⟨_, rfl⟩
 have D := Lib.hid (show B3 W0 w.heap.size 25 (.int .i64 r) (.int .i64 (C : Int)) (.slice (some ⟨b, o, none⟩) n cap) by rw [hW0]; exact (B3.new _ _ _ _ _).alloc _)
 have Z := Lib.hid (show B3 W0 (w.heap.size + 1) 34 (.bool false) (.slice none 0 0) (.slice none 0 0) by rw [hW0]; exact b3_at (B3.new _ _ _ _ _) (by simp))
 rw [← hW0] at BA
 have HW := Lib.hid hW0
 clear hW0
 have c0 := (BA.out.cell (World.block_lt_of_cell? w _ k0)).trans k0
 have c1 := (BA.out.cell (World.block_lt_of_cell? w _ k1)).trans k1
 have c2 := (BA.out.cell (World.block_lt_of_cell? w _ k2)).trans k2
 clear k0 k1 k2
 have e2 := Lib.hid (((BA.out.setCell (p := ⟨w.heap.size + 1, 0, none⟩) (by simp) (.bool bb)).setCell (p := ⟨w.heap.size + 1, 1, none⟩) (by simp) (.slice a1 n1 r1)).setCell (p := ⟨w.heap.size + 1, 2, none⟩) (by simp) (.slice a2 n2 r2))
 have D8 := Z.out.set3 (.bool bb) (.slice a1 n1 r1) (.slice a2 n2 r2)
 have hc0 := D8.c0; have hc1 := D8.c1; have hc2 := D8.c2
 clear D8
 have d0 := D.out.c0
 have d1 := D.out.c1
 have d2 := D.out.c2
 have z0 := Z.out.c0
 have z1 := Z.out.c1
 have z2 := Z.out.c2
 have y0 := Z.out.f 0
 have y1 := Z.out.f 1
 have y2 := Z.out.f 2
 go_enter Tryz.func96, Tryz.ntmps96
 go_wp2_with (rw [← HW.out])
 exact bodyPost_ret (v := .agg #[.bool bb, .slice a1 n1 r1, .slice a2 n2 r2]) (by simp [results, Tryz.results96, go_sem, hc0, hc1, hc2]) rfl ⟨rfl, e2.out⟩
theorem OwnV.pair {w : World} {B : Nat} {v : Value} {L : List Fr} {xs : List (Value × Value)} (h : OwnV w B v L xs) (j : Nat) (hj : j < L.length) (hj' : j < xs.length) : ∃ a1 r1 a2 r2, xs[j]'hj' = (.slice a1 (L[j]'hj).mag.length r1, .slice a2 (L[j]'hj).den.length r2) := by
 obtain ⟨a, c, e, f, h1, h2⟩ := (h.each j hj hj').slices
 exact ⟨a, c, e, f, by rw [← h1, ← h2]⟩
theorem elem_at {w : World} {B q N cap R C i k : Nat} {g : Mx} {xs : List (Value × Value)} (h : OwnV w B (.slice (some ⟨q, 0, none⟩) N cap) (tabM R C g) xs) (hN : N = R * C) (hi : i < R) (hk : k < C) :
  ∃ a1 r1 a2 r2, (w.cell? ⟨q, (i * C + k) * 3, none⟩ = some (.bool (g i k).neg) ∧ w.cell? ⟨q, (i * C + k) * 3 + 1, none⟩ = some (.slice a1 (g i k).mag.length r1) ∧ w.cell? ⟨q, (i * C + k) * 3 + 2, none⟩ = some (.slice a2 (g i k).den.length r2)) ∧
   RowR w (.slice a1 (g i k).mag.length r1) (g i k).mag (.slice a2 (g i k).den.length r2) (g i k).den ∧ (∃ hj : i * C + k < xs.length, xs[i * C + k]'hj = (.slice a1 (g i k).mag.length r1, .slice a2 (g i k).den.length r2)) ∧
   (∀ b, ((Value.slice a1 (g i k).mag.length r1).ownBlock = some b ∨ (Value.slice a2 (g i k).den.length r2).ownBlock = some b) → b ≠ q ∧ OnV (.slice (some ⟨q, 0, none⟩) N cap) xs b) := by
 have hlt : i * C + k < (tabM R C g).length := by rw [tabM_len]; exact at_lt hi hk
 have hlt' : i * C + k < xs.length := by rw [h.len]; exact hlt
 obtain ⟨a1, r1, a2, r2, e⟩ := h.pair _ hlt hlt'
 obtain ⟨c0, c1, c2⟩ := h.cells _ hlt hlt'
 have hr := h.each _ hlt hlt'
 rw [tabM_get hk] at c0 e hr
 have hne := h.ne_row _ hlt'
 have hon : ∀ b, ((xs[i * C + k]'hlt').1.ownBlock = some b ∨ (xs[i * C + k]'hlt').2.ownBlock = some b) → OnV (.slice (some ⟨q, 0, none⟩) N cap) xs b := fun b hb => .inr ⟨_, List.getElem_mem hlt', hb⟩
 rw [e] at c1 c2 hr hne hon
 exact ⟨a1, r1, a2, r2, ⟨c0, c1, c2⟩, hr.row, ⟨hlt', e⟩, fun b hb => ⟨fun e => hne b hb (by rw [e]; rfl), hon b hb⟩⟩
theorem spec_atE (r : Int) (C i k N q cap : Nat) (bb : Bool) (a1 : Option Addr) (n1 r1 : Nat) (a2 : Option Addr) (n2 r2 : Nat) (w : World) (hi : i * C + k < N) (hn : N ≤ 576)
  (h : w.cell? ⟨q, (i * C + k) * 3, none⟩ = some (.bool bb) ∧ w.cell? ⟨q, (i * C + k) * 3 + 1, none⟩ = some (.slice a1 n1 r1) ∧ w.cell? ⟨q, (i * C + k) * 3 + 2, none⟩ = some (.slice a2 n2 r2)) :
  Calls Tryz.prog 96 #[.agg #[.int .i64 r, .int .i64 (C : Int), .slice (some ⟨q, 0, none⟩) N cap], .int .i64 (i : Int), .int .i64 (k : Int)] w fun e w' => e = .returned (.agg #[.bool bb, .slice a1 n1 r1, .slice a2 n2 r2]) ∧ Below w.heap.size w w' :=
 spec_atC r C i k N q 0 cap _ a1 _ r1 a2 _ r2 w hi hn (by rw [Nat.zero_add]; exact h.1) (by rw [Nat.zero_add]; exact h.2.1) (by rw [Nat.zero_add]; exact h.2.2)
theorem cell_farq {w : World} {p k j o1 o2 o3 : Nat} (h : k ≠ p) (x y z : Value) : (((w.setCell ⟨p, o1, none⟩ x).setCell ⟨p, o2, none⟩ y).setCell ⟨p, o3, none⟩ z).cell? ⟨k, j, none⟩ = w.cell? ⟨k, j, none⟩ :=
 (World.cell?_of_block (a := ⟨k, j, none⟩) (Below.heap_setCell _ ⟨p, o3, none⟩ z k h)).trans ((World.cell?_of_block (a := ⟨k, j, none⟩) (Below.heap_setCell _ ⟨p, o2, none⟩ y k h)).trans (World.cell?_of_block (a := ⟨k, j, none⟩) (Below.heap_setCell _ ⟨p, o1, none⟩ x k h)))
set_option maxRecDepth 100000 in
set_option maxHeartbeats 4000000 in
theorem spec_clear (R C N n k q cap B : Nat) (g : Mx) (xs : List (Value × Value)) (w : World) (h : OwnV w B (.slice (some ⟨q, 0, none⟩) N cap) (tabM R C g) xs) (hN : N = R * C) (hR : R ≤ 24) (hC : C ≤ 24) (hn : n < R) (hk : k < C) (hg : GoodM R C g) (hB : B ≤ w.heap.size) :
  Calls Tryz.prog 124 #[.agg #[.int .i64 (R : Int), .int .i64 (C : Int), .slice (some ⟨q, 0, none⟩) N cap], .int .i64 (n : Int), .int .i64 (k : Int)] w fun e w' => (∃ v, e = .returned v) ∧ ∃ xs', OwnV w' B (.slice (some ⟨q, 0, none⟩) N cap) (tabM R C (clG g n k)) xs' ∧ Kept (fun j => j = q) w w' ∧ (∀ j, OnV (.slice (some ⟨q, 0, none⟩) N cap) xs' j → OnV (.slice (some ⟨q, 0, none⟩) N cap) xs j ∨ w.heap.size ≤ j) := by
 have hq := (h.lt q (.inl rfl)).2
 have hRC : R * C ≤ 24 * 24 := Nat.mul_le_mul hR hC
 have hN9 : N ≤ 576 := by omega
 have HN := Lib.hid hN
 have HG := Lib.hid hg
 have HX := Lib.hid h
 clear h hN hg hRC
 go_enter Tryz.func124, Tryz.ntmps124
 go_wp2_with fail
 obtain ⟨h0, hh0⟩ : ∃ h0, h0 = w.heap.size := ⟨_, rfl⟩
 obtain ⟨W0, hW0⟩ : ∃ x, x = w.alloc (.cells #[.int .i64 (R : Int), .int .i64 (C : Int), .slice (some ⟨q, 0, none⟩) N cap] 25) := ⟨_, rfl⟩
 have M0 := Lib.hid (show B3 W0 h0 25 (.int .i64 (R : Int)) (.int .i64 (C : Int)) (.slice (some ⟨q, 0, none⟩) N cap) by rw [hW0, hh0]; exact B3.new _ _ _ _ _)
 have V0 := Lib.hid (show OwnV W0 B (.slice (some ⟨q, 0, none⟩) N cap) (tabM R C (clP g n k 0 k)) xs by rw [hW0, clP_zero g n k k (Nat.le_refl _)]; exact HX.out.alloc _)
 have K0 := Lib.hid (show Kept (fun j => j = q) w W0 by rw [hW0]; exact Kept.of_below ((Below.refl _ _).alloc (Nat.le_refl _) _))
 have HH := Lib.hid hh0
 rw [← hh0] at hq hB
 rw [← hW0, ← hh0]
 clear hW0 hh0
 go_loopw [6] (fun iv wr => ∃ (i : Nat) (ys : List (Value × Value)), i ≤ R ∧ iv = .int .i64 i ∧ Hid (B3 wr h0 25 (.int .i64 (R : Int)) (.int .i64 (C : Int)) (.slice (some ⟨q, 0, none⟩) N cap)) ∧ Hid (OwnV wr B (.slice (some ⟨q, 0, none⟩) N cap) (tabM R C (clP g n k i k)) ys) ∧ Hid (Kept (fun j => j = q) w wr) ∧ Hid (∀ j, OnV (.slice (some ⟨q, 0, none⟩) N cap) ys j → OnV (.slice (some ⟨q, 0, none⟩) N cap) xs j ∨ h0 ≤ j)) (fun iv _ => R - (intOf iv).toNat)
 case atStart => exact ⟨0, xs, Nat.zero_le _, rfl, M0, V0, K0, Lib.hid (fun j hj => .inl hj)⟩
 case round =>
  clear M0 V0 K0
  obtain ⟨i, ys, hi, rfl, M, V, K, O⟩ := hrel
  have m0 := M.out.c0
  have m1 := M.out.c1
  have m2 := M.out.c2
  by_cases hlt : i < R
  ·have hik : i * C + k < N := by have := at_lt hlt hk; rw [HN.out]; exact this
   obtain ⟨a1, r1, a2, r2, hcc, hrr, -, hon⟩ := elem_at V.out HN.out hlt hk
   have HF := Lib.hid (HG.out i k hlt hk)
   have HFE := Lib.hid (show clP g n k i k i k = g i k from clP_start k)
   rw [HFE.out] at hcc hrr hon
   obtain ⟨f, hf⟩ : ∃ f, f = g i k := ⟨_, rfl⟩
   rw [← hf] at hcc hrr hon HF
   have HFF := Lib.hid hf
   have HAT := Lib.hid (spec_atE (R : Int) C i k N q cap _ a1 _ r1 a2 _ r2 wr hik hN9 hcc)
   have RR := Lib.hid hrr
   have RON := Lib.hid (fun b hb => (hon b hb).1)
   clear hf hcc hrr hon hik
   go_wp2_with fail
   refine (HAT.out).mono ?_
   rintro e w1 ⟨rfl, b1⟩
   replace M := Lib.hid (M.out.below b1)
   replace V := Lib.hid (V.out.below b1)
   replace K := Lib.hid (K.out.trans (Kept.of_below b1))
   replace RR := Lib.hid (RR.out.below b1)
   clear b1 HAT m0 m1 m2
   obtain ⟨p7, hp7⟩ : ∃ p7, p7 = w1.heap.size := ⟨_, rfl⟩
   obtain ⟨W1, hW1⟩ : ∃ x, x = w1.alloc (.cells #[.bool f.neg, .slice a1 f.mag.length r1, .slice a2 f.den.length r2] 34) := ⟨_, rfl⟩
   have hp0 : h0 < p7 := by have := M.out.lt; omega
   have F7 := Lib.hid (show B3 W1 p7 34 (.bool f.neg) (.slice a1 f.mag.length r1) (.slice a2 f.den.length r2) by rw [hW1, hp7]; exact B3.new _ _ _ _ _)
   have b1 := (show Below w1.heap.size w1 W1 by rw [hW1]; exact (Below.refl _ _).alloc (Nat.le_refl _) _)
   replace M := Lib.hid (M.out.below b1)
   replace V := Lib.hid (V.out.below b1)
   replace K := Lib.hid (K.out.trans (Kept.of_below b1))
   replace RR := Lib.hid (RR.out.below b1)
   clear b1
   have HW := Lib.hid hW1.symm
   have HP := Lib.hid hp7.symm
   clear hW1 hp7
   have f0 := F7.out.c0
   have f1 := F7.out.c1
   have f2 := F7.out.c2
   by_cases hin : i = n
   ·have he : ((i : Int) == (n : Int)) = true := by rw [beq_iff_eq]; omega
    go_wp2_with (rw [HW.out, HP.out])
    exact ⟨⟨i + 1, ys, by omega, by go_num, M, Lib.hid (by rw [← clP_skip (.inl hin)]; exact V.out), K, O⟩, by simp [intOf]; omega⟩
   ·have he : ((i : Int) == (n : Int)) = false := by rw [beq_eq_false_iff_ne]; omega
    cases hq0 : nilF f with
    | true =>
     go_wp2_with (rw [HW.out, HP.out])
     refine (spec_nilF f _ _ _ RR.out).mono ?_
     rw [hq0]
     rintro e w2 ⟨rfl, b2⟩
     replace M := Lib.hid (M.out.below b2)
     replace V := Lib.hid (V.out.below b2)
     replace K := Lib.hid (K.out.trans (Kept.of_below b2))
     clear b2 f0 f1 f2
     go_wp2_with fail
     exact ⟨⟨i + 1, ys, by omega, by go_num, M, Lib.hid (by rw [← clP_skip (.inr (by rw [← HFF.out]; exact hq0))]; exact V.out), K, O⟩, by simp [intOf]; omega⟩
    | false =>
     go_wp2_with (rw [HW.out, HP.out])
     refine (spec_nilF f _ _ _ RR.out).mono ?_
     rw [hq0]
     rintro e w2 ⟨rfl, b2⟩
     replace M := Lib.hid (M.out.below b2)
     replace F7 := Lib.hid (F7.out.below b2)
     replace V := Lib.hid (V.out.below b2)
     replace K := Lib.hid (K.out.trans (Kept.of_below b2))
     replace RR := Lib.hid (RR.out.below b2)
     clear b2 f0 f1 f2
     go_wp2_with fail
     go_loopw [8] (fun jv wi => ∃ (j : Nat) (zs : List (Value × Value)), k ≤ j ∧ j ≤ C ∧ jv = .int .i64 j ∧ Hid (B3 wi h0 25 (.int .i64 (R : Int)) (.int .i64 (C : Int)) (.slice (some ⟨q, 0, none⟩) N cap)) ∧ Hid (B3 wi p7 34 (.bool f.neg) (.slice a1 f.mag.length r1) (.slice a2 f.den.length r2)) ∧ Hid (RowR wi (.slice a1 f.mag.length r1) f.mag (.slice a2 f.den.length r2) f.den) ∧ Hid (OwnV wi B (.slice (some ⟨q, 0, none⟩) N cap) (tabM R C (clP g n k i j)) zs) ∧ Hid (Kept (fun j => j = q) w wi) ∧ Hid (∀ b, OnV (.slice (some ⟨q, 0, none⟩) N cap) zs b → OnV (.slice (some ⟨q, 0, none⟩) N cap) xs b ∨ h0 ≤ b)) (fun jv _ => C - (intOf jv).toNat)
     case atStart => exact ⟨k, ys, Nat.le_refl _, by omega, rfl, M, F7, RR, V, K, O⟩
     case round =>
      clear M F7 RR V K O ys
      obtain ⟨j, zs, hkj, hj, rfl, M, F7, RR, V, K, O⟩ := hrel
      have m0 := M.out.c0
      have m1 := M.out.c1
      have m2 := M.out.c2
      by_cases hlj : j < C
      ·have hnj : n * C + j < N := by have := at_lt hn hlj; rw [HN.out]; exact this
       have hij : i * C + j < N := by have := at_lt hlt hlj; rw [HN.out]; exact this
       obtain ⟨a3, r3, a4, r4, hc3, hr3, -, -⟩ := elem_at V.out HN.out hn hlj
       rw [clP_row] at hc3 hr3
       have HGn := Lib.hid (HG.out n j hn hlj)
       obtain ⟨y, hy⟩ : ∃ y, y = g n j := ⟨_, rfl⟩
       rw [← hy] at hc3 hr3 HGn
       have HY := Lib.hid hy
       have R3 := Lib.hid hr3
       have C3 := Lib.hid hc3
       clear hy hc3 hr3
       go_wp2_with fail
       refine (spec_atE (R : Int) C n j N q cap _ a3 _ r3 a4 _ r4 wr hnj hN9 C3.out).mono ?_
       rintro e w2 ⟨rfl, b2⟩
       replace M := Lib.hid (M.out.below b2)
       replace F7 := Lib.hid (F7.out.below b2)
       replace V := Lib.hid (V.out.below b2)
       replace K := Lib.hid (K.out.trans (Kept.of_below b2))
       replace RR := Lib.hid (RR.out.below b2)
       replace R3 := Lib.hid (R3.out.below b2)
       clear b2 m0 m1 m2 C3
       cases hq1 : nilF y with
       | true =>
        go_wp2_with fail
        refine (spec_nilF y _ _ _ R3.out).mono ?_
        rw [hq1]
        rintro e w3 ⟨rfl, b2⟩
        replace M := Lib.hid (M.out.below b2)
        replace F7 := Lib.hid (F7.out.below b2)
        replace V := Lib.hid (V.out.below b2)
        replace K := Lib.hid (K.out.trans (Kept.of_below b2))
        replace RR := Lib.hid (RR.out.below b2)
        clear b2
        go_wp2_with fail
        exact ⟨⟨j + 1, zs, by omega, by omega, by go_num, M, F7, RR, Lib.hid (by rw [← clP_nil (by rw [← HY.out]; exact hq1)]; exact V.out), K, O⟩, by simp [intOf]; omega⟩
       | false =>
        go_wp2_with fail
        refine (spec_nilF y _ _ _ R3.out).mono ?_
        rw [hq1]
        rintro e w3 ⟨rfl, b2⟩
        replace M := Lib.hid (M.out.below b2)
        replace F7 := Lib.hid (F7.out.below b2)
        replace V := Lib.hid (V.out.below b2)
        replace K := Lib.hid (K.out.trans (Kept.of_below b2))
        replace RR := Lib.hid (RR.out.below b2)
        replace R3 := Lib.hid (R3.out.below b2)
        clear b2
        obtain ⟨a3, r3, a4, r4, hc3, hr3, -, -⟩ := elem_at V.out HN.out hn hlj
        rw [clP_row, ← HY.out] at hc3 hr3
        obtain ⟨a5, r5, a6, r6, hc5, hr5, -, -⟩ := elem_at V.out HN.out hlt hlj
        rw [clP_at] at hc5 hr5
        have HGi := Lib.hid (HG.out i j hlt hlj)
        obtain ⟨x, hx⟩ : ∃ x, x = g i j := ⟨_, rfl⟩
        rw [← hx] at hc5 hr5 HGi
        have HXX := Lib.hid hx
        clear hx
        obtain ⟨Y, hY⟩ : ∃ Y, Y = mulX f y := ⟨_, rfl⟩
        obtain ⟨Z, hZ⟩ : ∃ Z, Z = subX x Y := ⟨_, rfl⟩
        have SF := gd_small HF.out
        have SY := gd_small HGn.out
        have SX := gd_small HGi.out
        have HA1 := Lib.hid (fun W (hW : Below w3.heap.size w3 W) => (spec_atE (R : Int) C i j N q cap _ a5 _ r5 a6 _ r6 W hij hN9 ⟨(hW.cell (p := ⟨q, (i * C + j) * 3, none⟩) (World.block_lt_of_cell? w3 _ hc5.1)).trans hc5.1, (hW.cell (p := ⟨q, (i * C + j) * 3 + 1, none⟩) (World.block_lt_of_cell? w3 _ hc5.2.1)).trans hc5.2.1, (hW.cell (p := ⟨q, (i * C + j) * 3 + 2, none⟩) (World.block_lt_of_cell? w3 _ hc5.2.2)).trans hc5.2.2⟩).mono (R' := fun e w' => e = .returned (.agg #[.bool x.neg, .slice a5 x.mag.length r5, .slice a6 x.den.length r6]) ∧ Below W.heap.size W w' ∧ Below w3.heap.size w3 w') (fun e w' ⟨he, hb⟩ => ⟨he, hb, hW.trans (hb.mono hW.size)⟩))
        have HA2 := Lib.hid (fun W (hW : Below w3.heap.size w3 W) => (spec_atE (R : Int) C n j N q cap _ a3 _ r3 a4 _ r4 W hnj hN9 ⟨(hW.cell (p := ⟨q, (n * C + j) * 3, none⟩) (World.block_lt_of_cell? w3 _ hc3.1)).trans hc3.1, (hW.cell (p := ⟨q, (n * C + j) * 3 + 1, none⟩) (World.block_lt_of_cell? w3 _ hc3.2.1)).trans hc3.2.1, (hW.cell (p := ⟨q, (n * C + j) * 3 + 2, none⟩) (World.block_lt_of_cell? w3 _ hc3.2.2)).trans hc3.2.2⟩).mono (R' := fun e w' => e = .returned (.agg #[.bool y.neg, .slice a3 y.mag.length r3, .slice a4 y.den.length r4]) ∧ Below W.heap.size W w' ∧ Below w3.heap.size w3 w') (fun e w' ⟨he, hb⟩ => ⟨he, hb, hW.trans (hb.mono hW.size)⟩))
        have HM := Lib.hid (fun W (hW : Below w3.heap.size w3 W) => (spec_mulF f y SF SY _ _ _ _ W (RR.out.below hW) (hr3.below hW)).mono (R' := fun e w' => ∃ a c d b, e = .returned (.agg #[.bool Y.neg, .slice a Y.mag.length c, .slice d Y.den.length b]) ∧ OwnR w' w3.heap.size (.slice a Y.mag.length c) Y.mag (.slice d Y.den.length b) Y.den ∧ Below W.heap.size W w' ∧ Below w3.heap.size w3 w') (fun e w' ⟨u, v, he, ho, hb⟩ => by
         rw [← hY] at he ho
         obtain ⟨a, c, d, b, rfl, rfl⟩ := ho.slices
         exact ⟨a, c, d, b, he, ho.base hW.size, hb, hW.trans (hb.mono hW.size)⟩))
        have HS1 := Lib.hid (fun W (hW : Below w3.heap.size w3 W) (v d : Value) (hr : RowR W v Y.mag d Y.den) => (spec_subS x Y SX (by rw [hY]; exact small_mul _ _) _ _ v d W (hr5.below hW) hr).mono (R' := fun e w' => ∃ a c d b, e = .returned (.agg #[.bool Z.neg, .slice a Z.mag.length c, .slice d Z.den.length b]) ∧ OwnR w' w3.heap.size (.slice a Z.mag.length c) Z.mag (.slice d Z.den.length b) Z.den ∧ Below w3.heap.size w3 w') (fun e w' ⟨u, v, he, ho, hb⟩ => by
         rw [← hZ] at he ho
         obtain ⟨a, c, d, b, rfl, rfl⟩ := ho.slices
         exact ⟨a, c, d, b, he, ho.base hW.size, hW.trans (hb.mono hW.size)⟩))
        have HZZ := Lib.hid (show (tabM R C (clP g n k i j)).set (i * C + j) Z = tabM R C (clP g n k i (j + 1)) by
         rw [hZ, hY, HXX.out, HFF.out, HY.out]
         exact clP_set hin hkj hlj (by rw [← HFF.out]; exact hq0) (by rw [← HY.out]; exact hq1))
        obtain ⟨l, hl⟩ : ∃ l, i * C = l := ⟨_, rfl⟩
        have p1 : (i : Int) * (C : Int) = (l : Int) := by rw [← hl, Int.natCast_mul]
        have p2 : (l : Int) + (j : Int) = ((l + j : Nat) : Int) := by omega
        obtain ⟨jj, hjj⟩ : ∃ jj, l + j = jj := ⟨_, rfl⟩
        rw [hjj] at p2
        have hjN : jj < N := by rw [← hjj, ← hl]; exact hij
        have x1 : (0 : Int) ≤ (jj : Int) := by omega
        have x2 : (jj : Int) < (N : Int) := by omega
        have hl9 : l ≤ 576 := by omega
        have wr1 : IntKind.i64.wrap (l : Int) = (l : Int) := by rw [IntKind.wrap_i64]; omega
        have wr2 : IntKind.i64.wrap (jj : Int) = (jj : Int) := by rw [IntKind.wrap_i64]; omega
        have HJ := Lib.hid (show i * C + j = jj by rw [hl, hjj])
        have VH := Lib.hid (fun W (hW : Below w3.heap.size w3 W) => V.out.below hW)
        have HT := Lib.hid (show ∀ W : World, Below w3.heap.size w3 W → ((∃ u0, W.cell? ⟨q, jj * 3, none⟩ = some u0) ∧ (∃ u1, W.cell? ⟨q, jj * 3 + 1, none⟩ = some u1) ∧ (∃ u2, W.cell? ⟨q, jj * 3 + 2, none⟩ = some u2)) ∧ W.frozen? ⟨q, jj * 3, none⟩ = false ∧ W.frozen? ⟨q, jj * 3 + 1, none⟩ = false ∧ W.frozen? ⟨q, jj * 3 + 2, none⟩ = false from fun W hW => by
         have OK := VH.out W hW
         obtain ⟨s0, s1, s2⟩ := OK.cells jj (by rw [tabM_len, ← HN.out]; exact hjN) (by rw [OK.len, tabM_len, ← HN.out]; exact hjN)
         exact ⟨⟨⟨_, s0⟩, ⟨_, s1⟩, ⟨_, s2⟩⟩, OK.frozen _, OK.frozen _, OK.frozen _⟩)
        have HS := Lib.hid (show ∀ W : World, Below w3.heap.size w3 W → (W.cell? ⟨h0, 0, none⟩ = some (.int .i64 (R : Int)) ∧ W.cell? ⟨h0, 1, none⟩ = some (.int .i64 (C : Int)) ∧ W.cell? ⟨h0, 2, none⟩ = some (.slice (some ⟨q, 0, none⟩) N cap) ∧ W.cell? ⟨p7, 0, none⟩ = some (.bool f.neg) ∧ W.cell? ⟨p7, 1, none⟩ = some (.slice a1 f.mag.length r1) ∧ W.cell? ⟨p7, 2, none⟩ = some (.slice a2 f.den.length r2)) from fun W hW => ⟨(M.out.below hW).c0, (M.out.below hW).c1, (M.out.below hW).c2, (F7.out.below hW).c0, (F7.out.below hW).c1, (F7.out.below hW).c2⟩)
        have m0 := M.out.c0
        have m1 := M.out.c1
        have m2 := M.out.c2
        have f0 := F7.out.c0
        have f1 := F7.out.c1
        have f2 := F7.out.c2
        have BK := Lib.hid K.out.size
        clear hc3 hr3 hc5 hr5 hl hjj hY hZ SF SY SX
        go_wp2_with fail
        go_region_held3 (fun w' => w'.cell? ⟨h0, 0, none⟩ = some (.int .i64 (R : Int)) ∧ w'.cell? ⟨h0, 1, none⟩ = some (.int .i64 (C : Int)) ∧ w'.cell? ⟨h0, 2, none⟩ = some (.slice (some ⟨q, 0, none⟩) N cap) ∧ w'.cell? ⟨p7, 0, none⟩ = some (.bool f.neg) ∧ w'.cell? ⟨p7, 1, none⟩ = some (.slice a1 f.mag.length r1) ∧ w'.cell? ⟨p7, 2, none⟩ = some (.slice a2 f.den.length r2))
         (first | exact HS.out _ (by first | with_reducible exact Below.refl _ _ | with_reducible exact (Below.refl _ _).drew | with_reducible exact bb_a | with_reducible exact bb_b | with_reducible exact bb_m | with_reducible exact bb_s | fail) | exact ⟨(cell_farq (show h0 ≠ q from by omega) _ _ _).trans ((HS.out _ (by first | with_reducible exact Below.refl _ _ | with_reducible exact (Below.refl _ _).drew | with_reducible exact bb_a | with_reducible exact bb_b | with_reducible exact bb_m | with_reducible exact bb_s | fail)).1), (cell_farq (show h0 ≠ q from by omega) _ _ _).trans ((HS.out _ (by first | with_reducible exact Below.refl _ _ | with_reducible exact (Below.refl _ _).drew | with_reducible exact bb_a | with_reducible exact bb_b | with_reducible exact bb_m | with_reducible exact bb_s | fail)).2.1), (cell_farq (show h0 ≠ q from by omega) _ _ _).trans ((HS.out _ (by first | with_reducible exact Below.refl _ _ | with_reducible exact (Below.refl _ _).drew | with_reducible exact bb_a | with_reducible exact bb_b | with_reducible exact bb_m | with_reducible exact bb_s | fail)).2.2.1), (cell_farq (show p7 ≠ q from by omega) _ _ _).trans ((HS.out _ (by first | with_reducible exact Below.refl _ _ | with_reducible exact (Below.refl _ _).drew | with_reducible exact bb_a | with_reducible exact bb_b | with_reducible exact bb_m | with_reducible exact bb_s | fail)).2.2.2.1), (cell_farq (show p7 ≠ q from by omega) _ _ _).trans ((HS.out _ (by first | with_reducible exact Below.refl _ _ | with_reducible exact (Below.refl _ _).drew | with_reducible exact bb_a | with_reducible exact bb_b | with_reducible exact bb_m | with_reducible exact bb_s | fail)).2.2.2.2.1), (cell_farq (show p7 ≠ q from by omega) _ _ _).trans ((HS.out _ (by first | with_reducible exact Below.refl _ _ | with_reducible exact (Below.refl _ _).drew | with_reducible exact bb_a | with_reducible exact bb_b | with_reducible exact bb_m | with_reducible exact bb_s | fail)).2.2.2.2.2)⟩)
         (first
          | (go_at_call 155; refine (HS1.out _ (by first | with_reducible exact Below.refl _ _ | with_reducible exact (Below.refl _ _).drew | with_reducible exact bb_a | with_reducible exact bb_b | with_reducible exact bb_m | with_reducible exact bb_s | fail) _ _ (by first | with_reducible exact o_m.row)).mono ?_; rintro e w_s ⟨a_s, c_s, d_s, b_s, rfl, o_s, bb_s⟩; obtain ⟨⟨⟨v0, s0⟩, ⟨v1, s1⟩, ⟨v2, s2⟩⟩, t0, t1, t2⟩ := HT.out _ bb_s)
          | (go_at_call 83; refine (HM.out _ (by first | with_reducible exact Below.refl _ _ | with_reducible exact (Below.refl _ _).drew | with_reducible exact bb_a | with_reducible exact bb_b | with_reducible exact bb_m | with_reducible exact bb_s | fail)).mono ?_; rintro e w_m ⟨a_m, c_m, d_m, b_m, rfl, o_m, bw_m, bb_m⟩; obtain ⟨⟨⟨v0, s0⟩, ⟨v1, s1⟩, ⟨v2, s2⟩⟩, t0, t1, t2⟩ := HT.out _ bb_m)
          | (go_at_call 96; with_reducible refine (HA1.out _ (by first | with_reducible exact Below.refl _ _ | with_reducible exact (Below.refl _ _).drew | with_reducible exact bb_a | with_reducible exact bb_b | with_reducible exact bb_m | with_reducible exact bb_s | fail)).mono ?_; rintro e w_a ⟨rfl, bw_a, bb_a⟩; (try have o_m := o_m.below bw_a); obtain ⟨⟨⟨v0, s0⟩, ⟨v1, s1⟩, ⟨v2, s2⟩⟩, t0, t1, t2⟩ := HT.out _ bb_a)
          | (go_at_call 96; with_reducible refine (HA2.out _ (by first | with_reducible exact Below.refl _ _ | with_reducible exact (Below.refl _ _).drew | with_reducible exact bb_a | with_reducible exact bb_b | with_reducible exact bb_m | with_reducible exact bb_s | fail)).mono ?_; rintro e w_b ⟨rfl, bw_b, bb_b⟩; obtain ⟨⟨⟨v0, s0⟩, ⟨v1, s1⟩, ⟨v2, s2⟩⟩, t0, t1, t2⟩ := HT.out _ bb_b))
        all_goals (have lr := o_s.lt)
        all_goals (have L9 := V.out.lt)
        all_goals (have VF := (VH.out _ bb_s).set3 jj Z _ _ (by rw [tabM_len, ← HN.out]; exact hjN) (OwnR.base o_s (by have := BK.out; have := HH.out; omega)) (fun a ha _ r r' e1 e2 => by have h3 := (L9 r (.inr ⟨_, List.getElem_mem ha, e1⟩)).2; have h4 := (lr r' e2).1; omega) (fun r e2 => by have h4 := (lr r e2).1; have := BK.out; have := HH.out; omega))
        all_goals (have KF := ((kept_set w_s q (jj * 3) (.bool Z.neg)).trans (kept_set _ q (jj * 3 + 1) (.slice a_s Z.mag.length c_s))).trans (kept_set _ q (jj * 3 + 2) (.slice d_s Z.den.length b_s)))
        all_goals (have WB := (Kept.of_below (S := fun j => j = q) bb_s).trans KF)
        all_goals (have MF := Lib.hid (M.out.keptK WB (by omega)); have FF := Lib.hid (F7.out.keptK WB (by omega)); have RF := Lib.hid (RR.out.keptS WB RON.out); have KK := Lib.hid (K.out.trans WB); have VV := Lib.hid VF)
        all_goals (rw [HJ.out] at HZZ; rw [HZZ.out] at VV)
        all_goals clear VF KF WB HT HS HA1 HA2 HM HS1 VH o_s s0 s1 s2 t0 t1 t2 bb_s m0 m1 m2 f0 f1 f2
        all_goals go_wp2_with fail
        all_goals exact ⟨⟨j + 1, _, by omega, by omega, by go_num, MF, FF, RF, VV, KK, Lib.hid (fun b hb => by
         rcases onV_set (n := h0) (fun r e2 => by have h4 := (lr r e2).1; have := BK.out; have := HH.out; omega) b hb with h | h
         ·exact O.out b h
         ·exact .inr h)⟩, by simp [intOf]; omega⟩
      ·obtain rfl : j = C := by omega
       rw [clP_next] at V
       go_wp2_with fail
       exact ⟨⟨i + 1, zs, by omega, by go_num, M, V, K, O⟩, by simp [intOf]; omega⟩
  ·obtain rfl : i = R := by omega
   rw [clP_end] at V
   go_wp2_with fail
   go_end0
   rw [← HH.out]
   exact ⟨⟨_, rfl⟩, ys, V.out, K.out, O.out⟩
end Go.Proofs.YtlepgkkpopjgoaaGreat
namespace Go.Proofs.YtlepgkkpopjgoaaGreat
open Go.RowKit Go.WideShapes Go.ChangeShapes
set_option linter.unusedVariables false
set_option linter.unusedSimpArgs false
set_option maxRecDepth 100000 in
theorem append_fac {ops : Array Oper} {rest : List Oper} {o : Oper} {a : Act} {Q : Exit → Act → World → Prop} {w : World} (hgd : o.guard = none) (s x : Operand)
  (ho : o.op = .call { callee := .builtin .append, args := #[s, x], argTypes := #[23, 23] })
  {B : Nat} {v : Value} {R C : Nat} {e : El} {pv fv : Value} {xs ps : List (Value × Value)} (hs : a.eval s = fv) (hE : ElS w B v R C e pv fv xs ps) (hL : e.fac.length ≤ 100000) (hB : B ≤ w.heap.size)
  (g c : Nat) (hx : a.eval x = .slice (some ⟨g, 0, none⟩) 1 c) (f : Fr) (a1 : Option Addr) (n1 r1 : Nat) (a2 : Option Addr) (n2 r2 : Nat) (hblk : w.heap[g]? = some (.cells #[.bool f.neg, .slice a1 n1 r1, .slice a2 n2 r2] 34 (0, 0)))
  (hr : RowR w (.slice a1 n1 r1) f.mag (.slice a2 n2 r2) f.den) (hl : ∀ k, ((Value.slice a1 n1 r1).ownBlock = some k ∨ (Value.slice a2 n2 r2).ownBlock = some k) → k < w.heap.size ∧ v.ownBlock ≠ some k ∧ pv.ownBlock ≠ some k ∧ fv.ownBlock ≠ some k)
  (h : ∀ fv' w', ElS w' B v R C ⟨e.g, e.piv, e.fac ++ [f]⟩ pv fv' xs (ps ++ [(.slice a1 n1 r1, .slice a2 n2 r2)]) → w.grownBy w' fv.ownBlock → wpList Tryz.prog ops Q rest (a.put o.dst fv') w') : wpList Tryz.prog ops Q (o :: rest) a w := by
 obtain ⟨i0, hi, hz0, hz1, hz2⟩ := info_parts info_rat
 refine Go.wpList_append_lies w hgd s x 23 ho B 34 i0 _ 3 56 Tryz.underlying23 hi hz0 hz1 hz2 rfl (by decide) fv e.fac.length (flat e.fac ps) hs hE.F ⟨g, 0, none⟩ 1 c
  [.bool f.neg, .slice a1 n1 r1, .slice a2 n2 r2] hx rfl (World.news_of_block hblk) (by intro u hu; simp at hu; rcases hu with rfl | rfl | rfl <;> rfl) (by decide) (by unfold maxLen; omega) (by omega) hB w.heap.size rfl ?_
 intro g' cap w' hr' hg hgg _
 exact h _ w' (hE.addF hg hr' (fun k hk => by
  have e : g' = k := by simpa [Value.ownBlock] using hk
  subst e
  rcases hgg with e | e
  ·exact .inl e
  ·exact .inr (by omega)) hr hl) hg
set_option maxRecDepth 100000 in
theorem append_piv {ops : Array Oper} {rest : List Oper} {o : Oper} {a : Act} {Q : Exit → Act → World → Prop} {w : World} (hgd : o.guard = none) (s x : Operand)
  (ho : o.op = .call { callee := .builtin .append, args := #[s, x], argTypes := #[30, 30] })
  {B : Nat} {v : Value} {R C : Nat} {e : El} {pv fv : Value} {xs ps : List (Value × Value)} (hs : a.eval s = pv) (hE : ElS w B v R C e pv fv xs ps) (hL : e.piv.length ≤ 100000) (hB : B ≤ w.heap.size)
  (ad : Addr) (k : Nat) (hx : a.eval x = .slice (some ad) 1 1) (hc : ∀ j y, [Value.int .i64 (k : Int)][j]? = some y → w.cell? (ad.add j) = some y)
  (h : ∀ pv' w', ElS w' B v R C ⟨e.g, e.piv ++ [k], e.fac⟩ pv' fv xs ps → w.grownBy w' pv.ownBlock → wpList Tryz.prog ops Q rest (a.put o.dst pv') w') : wpList Tryz.prog ops Q (o :: rest) a w := by
 obtain ⟨i0, hi, hz0, hz1, hz2⟩ := info_parts info_int
 have hl : (natV e.piv).length = e.piv.length := by simp [natV]
 refine Go.wpList_append_lies w hgd s x 30 ho B 3 i0 (.int .i64 0) 1 8 Tryz.underlying30 hi hz0 hz1 hz2 rfl (by decide) pv (natV e.piv).length ((natV e.piv).map iV) hs hE.P ad 1 1
  [.int .i64 (k : Int)] hx rfl hc (by simp [Value.oneCell']) (by decide) (by unfold maxLen; omega) (by omega) hB w.heap.size rfl ?_
 intro g' cap w' hr' hg hgg _
 have ho' : OwnI w' B (.slice (some ⟨g', 0, none⟩) ((natV e.piv).length + 1) cap) (natV (e.piv ++ [k])) := by
  have e9 : natV (e.piv ++ [k]) = natV e.piv ++ [(k : Int)] := by simp [natV]
  unfold OwnI
  rw [e9, List.length_append, List.map_append]
  exact hr'
 exact h _ w' (hE.addP hg ho' (fun j hj => by
  have e : g' = j := by simpa [Value.ownBlock] using hj
  subst e
  rcases hgg with e | e
  ·exact .inl e
  ·exact .inr (by omega))) hg
theorem natV_len (l : List Nat) : (natV l).length = l.length := by simp [natV]
theorem swap_at {w : World} {B q N cap R C i n j : Nat} {g : Mx} {xs : List (Value × Value)} (h : OwnV w B (.slice (some ⟨q, 0, none⟩) N cap) (tabM R C g) xs) (hi : i < R) (hn : n < R) (hj : j < C) {p1 p2 : Value × Value}
  (e1 : ∃ hj : i * C + j < xs.length, xs[i * C + j]'hj = p1) (e2 : ∃ hj : n * C + j < xs.length, xs[n * C + j]'hj = p2) {ji jn : Nat} (hji : i * C + j = ji) (hjn : n * C + j = jn) :
  ∃ ys, OwnV ((((((w.setCell ⟨q, ji * 3, none⟩ (.bool (g n j).neg)).setCell ⟨q, ji * 3 + 1, none⟩ p2.1).setCell ⟨q, ji * 3 + 2, none⟩ p2.2).setCell ⟨q, jn * 3, none⟩ (.bool (g i j).neg)).setCell ⟨q, jn * 3 + 1, none⟩ p1.1).setCell ⟨q, jn * 3 + 2, none⟩ p1.2)
   B (.slice (some ⟨q, 0, none⟩) N cap) (((tabM R C g).set (i * C + j) (g n j)).set (n * C + j) (g i j)) ys ∧ (∀ k, OnV (.slice (some ⟨q, 0, none⟩) N cap) ys k → OnV (.slice (some ⟨q, 0, none⟩) N cap) xs k) := by
 subst hji hjn
 obtain ⟨h1', e1⟩ := e1
 obtain ⟨h2', e2⟩ := e2
 have h1 : i * C + j < (tabM R C g).length := by rw [tabM_len]; exact at_lt hi hj
 have h2 : n * C + j < (tabM R C g).length := by rw [tabM_len]; exact at_lt hn hj
 have hs := h.swap (i * C + j) (n * C + j) h1 h2 h1' h2'
 have ho := onV_swap (v := .slice (some ⟨q, 0, none⟩) N cap) h1' h2'
 rw [tabM_get hj, tabM_get hj, e1, e2] at hs
 rw [e1, e2] at ho
 exact ⟨_, hs, ho⟩
theorem OwnV.after3 {w W : World} {B g n c : Nat} {L : List Fr} {xs : List (Value × Value)} (h : OwnV w B (.slice (some ⟨g, 0, none⟩) n c) L xs) (i k : Nat) (u1 u2 u3 : Value) (hk : k < L.length) (hW : W = ((w.setCell ⟨g, i * 3, none⟩ u1).setCell ⟨g, i * 3 + 1, none⟩ u2).setCell ⟨g, i * 3 + 2, none⟩ u3) :
  (∃ s, W.cell? ⟨g, k * 3, none⟩ = some s) ∧ (∃ s, W.cell? ⟨g, k * 3 + 1, none⟩ = some s) ∧ (∃ s, W.cell? ⟨g, k * 3 + 2, none⟩ = some s) ∧ W.frozen? ⟨g, k * 3, none⟩ = false ∧ W.frozen? ⟨g, k * 3 + 1, none⟩ = false ∧ W.frozen? ⟨g, k * 3 + 2, none⟩ = false := by
 have e := h.count
 subst e
 have hr := (((h.row.stored (i * 3) u1).1.stored (i * 3 + 1) u2).1.stored (i * 3 + 2) u3).1
 rw [← hW] at hr
 have hl := flat_len L xs h.len
 have key : ∀ j, j < L.length * 3 → ∃ s, W.cell? ⟨g, j, none⟩ = some s := fun j hj => ⟨_, (hr.cellAt j (by omega)).trans (List.getElem?_eq_getElem (by simp only [List.length_set]; omega))⟩
 exact ⟨key _ (by omega), key _ (by omega), key _ (by omega), hr.frozenAt _, hr.frozenAt _, hr.frozenAt _⟩
theorem kept3 (w : World) (q a : Nat) (u1 u2 u3 : Value) : Kept (fun k => k = q) w (((w.setCell ⟨q, a * 3, none⟩ u1).setCell ⟨q, a * 3 + 1, none⟩ u2).setCell ⟨q, a * 3 + 2, none⟩ u3) :=
 ((kept_set w q (a * 3) u1).trans (kept_set _ q (a * 3 + 1) u2)).trans (kept_set _ q (a * 3 + 2) u3)
theorem kept6 (w : World) (q a b : Nat) (u1 u2 u3 u4 u5 u6 : Value) : Kept (fun k => k = q) w ((((((w.setCell ⟨q, a * 3, none⟩ u1).setCell ⟨q, a * 3 + 1, none⟩ u2).setCell ⟨q, a * 3 + 2, none⟩ u3).setCell ⟨q, b * 3, none⟩ u4).setCell ⟨q, b * 3 + 1, none⟩ u5).setCell ⟨q, b * 3 + 2, none⟩ u6) :=
 ((((kept_set w q (a * 3) u1).trans (kept_set _ q (a * 3 + 1) u2)).trans (kept_set _ q (a * 3 + 2) u3)).trans (kept_set _ q (b * 3) u4)).trans ((kept_set _ q (b * 3 + 1) u5).trans (kept_set _ q (b * 3 + 2) u6))
theorem ElS.swapped {w w' : World} {B q N cap R C : Nat} {P0 : List Nat} {F0 : List Fr} {g : Mx} {pv fv : Value} {xs ys ps : List (Value × Value)} (h : ElS w B (.slice (some ⟨q, 0, none⟩) N cap) R C ⟨g, P0, F0⟩ pv fv xs ps)
  {g' : Mx} (hv : OwnV w' B (.slice (some ⟨q, 0, none⟩) N cap) (tabM R C g') ys) (ho : ∀ k, OnV (.slice (some ⟨q, 0, none⟩) N cap) ys k → OnV (.slice (some ⟨q, 0, none⟩) N cap) xs k) (hk : Kept (fun k => k = q) w w') : ElS w' B (.slice (some ⟨q, 0, none⟩) N cap) R C ⟨g', P0, F0⟩ pv fv ys ps :=
 h.cells hv hk (fun k e => .inl (by rw [e]; rfl)) (fun k hk => .inl (ho k hk))
theorem oneL_eq : oneL = [1] := rfl
theorem m1_eq : (⟨ofB (-1), ofL (-1), oneL⟩ : Fr) = m1F := by
 rw [oneL_eq]
 show (⟨ofB (-1), ofL (-1), [1]⟩ : Fr) = ⟨true, [1], [1]⟩
 exact congrArg (fun z => (⟨true, z, [1]⟩ : Fr)) limI_1
set_option maxHeartbeats 400000 in
theorem spec_m1 (w : World) : Calls Tryz.prog 82 #[.int .i64 (-1)] w fun r w' => ∃ a c d b, r = .returned (.agg #[.bool m1F.neg, .slice a m1F.mag.length c, .slice d m1F.den.length b]) ∧ OwnR w' w.heap.size (.slice a m1F.mag.length c) m1F.mag (.slice d m1F.den.length b) m1F.den ∧ Below w.heap.size w w' := by
 have h := spec_ratFromIntL (-1) w (by omega)
 have e := m1_eq
 have e1 : ofB (-1) = m1F.neg := congrArg Fr.neg e
 have e2 : ofL (-1) = m1F.mag := congrArg Fr.mag e
 have e3 : oneL = m1F.den := congrArg Fr.den e
 rw [e1, e2, e3] at h
 refine h.mono ?_
 rintro r w' ⟨v, d, rfl, ho, hb⟩
 obtain ⟨a, c, d, b, rfl, rfl⟩ := ho.slices
 exact ⟨a, c, d, b, rfl, ho, hb⟩
theorem alloc_two (w : World) (o1 o2 : Obj) : ((w.alloc o1).alloc o2).heap[w.heap.size + 1]? = some o2 := by
 have h := World.alloc_heap_new (w.alloc o1) o2
 rwa [World.size_alloc] at h
theorem ElS.V' {w : World} {B : Nat} {v : Value} {R C : Nat} {g : Mx} {P : List Nat} {F : List Fr} {pv fv : Value} {xs ps : List (Value × Value)} (h : ElS w B v R C ⟨g, P, F⟩ pv fv xs ps) : OwnV w B v (tabM R C g) xs := h.V
theorem ElS.reg {w : World} {B : Nat} {v : Value} {R C : Nat} {g g' : Mx} {P : List Nat} {F : List Fr} {pv fv : Value} {xs ps : List (Value × Value)} (h : ElS w B v R C ⟨g, P, F⟩ pv fv xs ps) (e : tabM R C g = tabM R C g') : ElS w B v R C ⟨g', P, F⟩ pv fv xs ps :=
 ⟨by show OwnV w B v (tabM R C g') xs; rw [← e]; exact h.V, h.P, h.F, h.plen, h.fr, h.lt, h.vp, h.vf, h.pf, h.qv⟩
theorem ElS.off3 {w : World} {B : Nat} {v : Value} {R C : Nat} {e : El} {pv fv : Value} {xs ps : List (Value × Value)} {p : Nat} {x y z : Value} (h : ElS w B v R C e pv fv xs ps) (D : B3 w p 25 x y z) : pv.ownBlock ≠ some p ∧ fv.ownBlock ≠ some p := by
 have D' : w.heap[p]? = some (.cells #[x, y, z] 25 (0, 0)) := D
 constructor
 ·intro e9
  rcases h.P.2 with ⟨rfl, _⟩ | ⟨g1, cap1, cur1, rfl, _, hg1, _⟩
  ·simp [Value.ownBlock] at e9
  ·have e1 : g1 = p := by simpa [Value.ownBlock] using e9
   subst e1
   rw [hg1] at D'
   injection D' with D'
   injection D' with _ h3 _
   exact absurd h3 (by decide)
 ·intro e9
  rcases h.F.2 with ⟨rfl, _⟩ | ⟨g1, cap1, cur1, rfl, _, hg1, _⟩
  ·simp [Value.ownBlock] at e9
  ·have e1 : g1 = p := by simpa [Value.ownBlock] using e9
   subst e1
   rw [hg1] at D'
   injection D' with D'
   injection D' with _ h3 _
   exact absurd h3 (by decide)
end Go.Proofs.YtlepgkkpopjgoaaGreat
namespace Go.Proofs.YtlepgkkpopjgoaaGreat
open Go.RowKit Go.WideShapes Go.ChangeShapes
set_option linter.unusedVariables false
set_option linter.unusedSimpArgs false
theorem cell_farK {w : World} {p q i j l o : Nat} (h : q ≠ p) (x y z : Value) : (((w.setCell ⟨p, i, none⟩ x).setCell ⟨p, j, none⟩ y).setCell ⟨p, l, none⟩ z).cell? ⟨q, o, none⟩ = w.cell? ⟨q, o, none⟩ := by
 exact (World.cell?_of_block (a := ⟨q, o, none⟩) (Below.heap_setCell _ ⟨p, l, none⟩ z q h)).trans ((World.cell?_of_block (a := ⟨q, o, none⟩) (Below.heap_setCell _ ⟨p, j, none⟩ y q h)).trans (World.cell?_of_block (a := ⟨q, o, none⟩) (Below.heap_setCell _ ⟨p, i, none⟩ x q h)))
theorem zip_at {op : Fr → Fr → Fr} {A B : List Fr} {k : Nat} (h0 : k < A.length) (h1 : k < B.length) (h : k < (zipF op A B).length) : (zipF op A B)[k]'h = op (A[k]'h0) (B[k]'h1) := by
 exact List.getElem_zipWith
theorem zip_badAt {op : Fr → Fr → Fr} {A B : List Fr} {k : Nat} (h0 : k < A.length) (h1 : k < B.length) (hb : badF (op (A[k]'h0) (B[k]'h1)) = true) : fineV (zipF op A B) = false := by
 have hk : k < (zipF op A B).length := by unfold zipF; simp; omega
 exact all_no hk (by rw [zip_at h0 h1, hb]; rfl)
def cmbL (op : Fr → Fr → Fr) (A B : List Fr) : List Fr := if fineV (zipF op A B) then zipF op A B else []
theorem zip_lenE {op : Fr → Fr → Fr} {A B : List Fr} {n k : Nat} (ha : A.length = n) (hb : B.length = n) (hk : k ≤ n) : (zipF op (A.take k) (B.take k)).length = k := by unfold zipF; simp; omega
set_option maxRecDepth 100000 in
set_option maxHeartbeats 2000000 in
theorem impl_combSub (op : Fr → Fr → Fr)
  (HOP : ∀ (f g : Fr), okF f = true → okF g = true → ∀ v d v' d' w, RowR w v f.mag d f.den → RowR w v' g.mag d' g.den → Calls Tryz.prog 184 #[.agg #[.bool f.neg, v, d], .agg #[.bool g.neg, v', d']] w fun r w' => ∃ x y, r = .returned (.agg #[.bool (op f g).neg, x, y]) ∧ OwnR w' w.heap.size x (op f g).mag y (op f g).den ∧ Below w.heap.size w w')
  (v0 : Value) (L0 : List Fr) (v1 : Value) (L1 : List Fr) (w : World) (h0 : RatsAt w v0 L0) (h1 : RatsAt w v1 L1)
  (hl1 : L0.length = L1.length) (hl2 : L0.length ≤ 600) (E0 : ∀ k (hk : k < L0.length), okF (L0[k]'hk) = true) (E1 : ∀ k (hk : k < L1.length), okF (L1[k]'hk) = true) :
  Calls Tryz.prog 113 #[v0, v1, .func (.func 184) #[] #[]] w fun e w' => ∃ v xs, e = .returned (.tuple #[v, .bool (fineV (zipF op L0 L1))]) ∧ OwnV w' w.heap.size v (cmbL op L0 L1) xs ∧ Below w.heap.size w w' := by
 obtain ⟨ZB, hZB⟩ : ∃ b, b = fineV (zipF op L0 L1) := ⟨_, rfl⟩
 obtain ⟨ZL, hZL⟩ : ∃ b, b = cmbL op L0 L1 := ⟨_, rfl⟩
 rw [← hZB, ← hZL]
 have HZ := Lib.hid (And.intro hZB hZL)
 clear hZB hZL
 have E0 := Lib.hid E0
 have E1 := Lib.hid E1
 obtain ⟨a, cap, rfl, hc, hm, hr⟩ := h0
 obtain ⟨a', cap', rfl, hc', hm', hr'⟩ := h1
 unfold maxLen at hm hm'
 have R := Lib.hid hr
 have R' := Lib.hid hr'
 clear hr hr'
 obtain ⟨n, hnn⟩ : ∃ n, L0.length = n := ⟨_, rfl⟩
 have HN1 := Lib.hid hl1
 rw [hnn] at hl1
 rw [← hl1] at hc' ⊢
 rw [hnn] at hc hl2 ⊢
 have HN := Lib.hid hnn
 have HM := make_rats n (by omega) w
 clear hnn hl1
 go_enter Tryz.func113, Tryz.ntmps113
 go_wp2_with fail
 obtain ⟨W1, hW1⟩ : ∃ x, x = w.alloc (zeroV n) := ⟨_, rfl⟩
 have HO := Lib.hid (show OwnV W1 w.heap.size (.slice (some ⟨w.heap.size, 0, none⟩) n n) (zipF op (L0.take 0) (L1.take 0) ++ List.replicate (n - 0) Fr.zero) _ by rw [hW1]; exact zeroV_own w w.heap.size n (Nat.le_refl _) (by omega))
 have HB := Lib.hid (show Below w.heap.size w W1 by rw [hW1]; exact (Below.refl _ _).alloc (Nat.le_refl _) _)
 rw [← hW1]
 clear hW1 HM
 obtain ⟨g, hg⟩ : ∃ x, x = w.heap.size := ⟨_, rfl⟩
 rw [← hg] at HO
 rw [← hg]
 have HG := Lib.hid hg
 clear hg
 go_loopw [15] (fun iv wr => ∃ (k : Nat), k ≤ n ∧ iv = .int .i64 k ∧ ∃ xs, Hid (OwnV wr g (.slice (some ⟨g, 0, none⟩) n n) (zipF op (L0.take k) (L1.take k) ++ List.replicate (n - k) Fr.zero) xs) ∧ Hid (fineV (zipF op (L0.take k) (L1.take k)) = true) ∧ Hid (Below w.heap.size w wr)) (fun iv _ => n - (intOf iv).toNat)
 case atStart => exact ⟨0, Nat.zero_le _, rfl, _, HO, Lib.hid (by simp [zipF, fineV]), HB⟩
 case round =>
  obtain ⟨k, hk, rfl, xs, HK, HA, HBk⟩ := hrel
  by_cases hlt : k < n
  ·skip
   have hlt0 : k < L0.length := by rw [HN.out]; exact hlt
   have hlt1 : k < L1.length := by rw [← HN1.out, HN.out]; exact hlt
   obtain ⟨b, o, x, y, rfl, c0, c1, c2, hrr⟩ := R.out k hlt0
   obtain ⟨b', o', x', y', rfl, e0, e1, e2, hss⟩ := R'.out k hlt1
   have d0 := (HBk.out.cell (World.block_lt_of_cell? w _ c0)).trans c0
   have d1 := (HBk.out.cell (World.block_lt_of_cell? w _ c1)).trans c1
   have d2 := (HBk.out.cell (World.block_lt_of_cell? w _ c2)).trans c2
   have f0 := (HBk.out.cell (World.block_lt_of_cell? w _ e0)).trans e0
   have f1 := (HBk.out.cell (World.block_lt_of_cell? w _ e1)).trans e1
   have f2 := (HBk.out.cell (World.block_lt_of_cell? w _ e2)).trans e2
   have RR := Lib.hid (hrr.below HBk.out)
   have SS := Lib.hid (hss.below HBk.out)
   have hb0 := World.block_lt_of_cell? w _ e0
   have hb1 := World.block_lt_of_cell? w _ c0
   have NB0 : b ≠ g := by have := HG.out; have h : b < w.heap.size := hb1; omega
   have NB1 : b' ≠ g := by have := HG.out; have h : b' < w.heap.size := hb0; omega
   clear hb0 hb1
   obtain ⟨a1, r1, a2, r2, rfl, rfl, hz1, hz2⟩ := rowR_len hrr
   obtain ⟨a3, r3, a4, r4, rfl, rfl, hz3, hz4⟩ := rowR_len hss
   clear c0 c1 c2 R hrr e0 e1 e2 R' hss
   have hL9 := HK.out.lt
   have L9 := Lib.hid hL9
   have hg9 := (hL9 g (.inl rfl)).2
   clear hL9
   go_upto_region 5 with fail
   have K_r := Lib.hid (fun (W : World) (hW : Below wr.heap.size wr W) => (HOP (L0[k]'hlt0) (L1[k]'hlt1) (E0.out k hlt0) (E1.out k hlt1) _ _ _ _ W (RR.out.below hW) (SS.out.below hW)).mono (R' := fun r w' => ∃ x y, r = .returned (.agg #[.bool (op (L0[k]'hlt0) (L1[k]'hlt1)).neg, x, y]) ∧ OwnR w' wr.heap.size x (op (L0[k]'hlt0) (L1[k]'hlt1)).mag y (op (L0[k]'hlt0) (L1[k]'hlt1)).den ∧ Below wr.heap.size wr w') (fun r w' ⟨x, y, he, hr, hb⟩ => ⟨x, y, he, hr.base hW.size, hW.trans (hb.mono hW.size)⟩))
   have HS := Lib.hid (show ∀ W : World, Below wr.heap.size wr W → (W.cell? ⟨b, o + k * 3, none⟩ = some (.bool (L0[k]'hlt0).neg) ∧ W.cell? ⟨b, o + k * 3 + 1, none⟩ = some (.slice a1 (L0[k]'hlt0).mag.length r1) ∧ W.cell? ⟨b, o + k * 3 + 2, none⟩ = some (.slice a2 (L0[k]'hlt0).den.length r2) ∧ W.cell? ⟨b', o' + k * 3, none⟩ = some (.bool (L1[k]'hlt1).neg) ∧ W.cell? ⟨b', o' + k * 3 + 1, none⟩ = some (.slice a3 (L1[k]'hlt1).mag.length r3) ∧ W.cell? ⟨b', o' + k * 3 + 2, none⟩ = some (.slice a4 (L1[k]'hlt1).den.length r4)) from fun W hW => ⟨(hW.cell (World.block_lt_of_cell? wr _ d0)).trans d0, (hW.cell (World.block_lt_of_cell? wr _ d1)).trans d1, (hW.cell (World.block_lt_of_cell? wr _ d2)).trans d2, (hW.cell (World.block_lt_of_cell? wr _ f0)).trans f0, (hW.cell (World.block_lt_of_cell? wr _ f1)).trans f1, (hW.cell (World.block_lt_of_cell? wr _ f2)).trans f2⟩)
   have hxl : xs.length = n := by have := HK.out.len; rw [List.length_append, List.length_replicate, zip_lenE HN.out (by rw [← HN1.out]; exact HN.out) (by omega)] at this; omega
   have HC := Lib.hid (fun (W : World) (hW : Below wr.heap.size wr W) => And.intro ((HK.out.below hW).cells k (by rw [List.length_append, List.length_replicate, zip_lenE HN.out (by rw [← HN1.out]; exact HN.out) (by omega)]; omega) (by omega)) (And.intro ((HK.out.below hW).frozen (k * 3)) (And.intro ((HK.out.below hW).frozen (k * 3 + 1)) ((HK.out.below hW).frozen (k * 3 + 2)))))
   go_region_held3 (fun w' => w'.cell? ⟨b, o + k * 3, none⟩ = some (.bool (L0[k]'hlt0).neg) ∧ w'.cell? ⟨b, o + k * 3 + 1, none⟩ = some (.slice a1 (L0[k]'hlt0).mag.length r1) ∧ w'.cell? ⟨b, o + k * 3 + 2, none⟩ = some (.slice a2 (L0[k]'hlt0).den.length r2) ∧ w'.cell? ⟨b', o' + k * 3, none⟩ = some (.bool (L1[k]'hlt1).neg) ∧ w'.cell? ⟨b', o' + k * 3 + 1, none⟩ = some (.slice a3 (L1[k]'hlt1).mag.length r3) ∧ w'.cell? ⟨b', o' + k * 3 + 2, none⟩ = some (.slice a4 (L1[k]'hlt1).den.length r4)) (first | exact HS.out _ (by first | with_reducible exact Below.refl _ _ | with_reducible exact (Below.refl _ _).drew | with_reducible exact bb_r | with_reducible exact bb_r.drew | fail) | exact ⟨(cell_farK NB0 _ _ _).trans (HS.out _ bb_r).1, (cell_farK NB0 _ _ _).trans (HS.out _ bb_r).2.1, (cell_farK NB0 _ _ _).trans (HS.out _ bb_r).2.2.1, (cell_farK NB1 _ _ _).trans (HS.out _ bb_r).2.2.2.1, (cell_farK NB1 _ _ _).trans (HS.out _ bb_r).2.2.2.2.1, (cell_farK NB1 _ _ _).trans (HS.out _ bb_r).2.2.2.2.2⟩ | fail)
    (first
     | (go_at_call 184; refine (K_r.out _ (by first | with_reducible exact Below.refl _ _ | with_reducible exact (Below.refl _ _).drew | with_reducible exact bb_r | with_reducible exact bb_r.drew | fail)).mono ?_; rintro e w_r ⟨x_r, y_r, rfl, o_r, bb_r⟩; obtain ⟨a_r, c_r, e_r, f_r, rfl, rfl⟩ := o_r.slices; obtain ⟨⟨s0, s1, s2⟩, t0, t1, t2⟩ := HC.out _ bb_r))
   all_goals
    have OK := HK.out.below bb_r
    have lr := o_r.lt
    have O3 := OK.set3 k (op (L0[k]'hlt0) (L1[k]'hlt1)) _ _ (by rw [List.length_append, List.length_replicate, zip_lenE HN.out (by rw [← HN1.out]; exact HN.out) (by omega)]; omega) (OwnR.base o_r (by omega)) (fun j hj _ a a' h1 h2 => by have h3 := (L9.out a (.inr ⟨_, List.getElem_mem hj, h1⟩)).2; have h4 := (lr a' h2).1; omega) (fun a h2 => by have h4 := (lr a h2).1; omega)
    rw [grow_set (zip_lenE HN.out (by rw [← HN1.out]; exact HN.out) (by omega)) hlt, ← zip_take hlt0 hlt1] at O3
    have B3 := (((HBk.out.trans (bb_r.mono HBk.out.size)).setCell (p := ⟨g, k * 3, none⟩) (Nat.le_of_eq HG.out.symm) (.bool (op (L0[k]'hlt0) (L1[k]'hlt1)).neg)).setCell (p := ⟨g, k * 3 + 1, none⟩) (Nat.le_of_eq HG.out.symm) (.slice a_r (op (L0[k]'hlt0) (L1[k]'hlt1)).mag.length c_r)).setCell (p := ⟨g, k * 3 + 2, none⟩) (Nat.le_of_eq HG.out.symm) (.slice e_r (op (L0[k]'hlt0) (L1[k]'hlt1)).den.length f_r)
    obtain ⟨w3, hw3⟩ : ∃ x, x = ((w_r.setCell ⟨g, k * 3, none⟩ (.bool (op (L0[k]'hlt0) (L1[k]'hlt1)).neg)).setCell ⟨g, k * 3 + 1, none⟩ (.slice a_r (op (L0[k]'hlt0) (L1[k]'hlt1)).mag.length c_r)).setCell ⟨g, k * 3 + 2, none⟩ (.slice e_r (op (L0[k]'hlt0) (L1[k]'hlt1)).den.length f_r) := ⟨_, rfl⟩
    rw [← hw3] at O3 B3
    rw [← hw3]
    have R3 := Lib.hid (show RowR w3 (.slice a_r (op (L0[k]'hlt0) (L1[k]'hlt1)).mag.length c_r) (op (L0[k]'hlt0) (L1[k]'hlt1)).mag (.slice e_r (op (L0[k]'hlt0) (L1[k]'hlt1)).den.length f_r) (op (L0[k]'hlt0) (L1[k]'hlt1)).den from (by rw [hw3]; exact (o_r.kept (((kept_set w_r g (k * 3) _).trans (kept_set _ g (k * 3 + 1) _)).trans (kept_set _ g (k * 3 + 2) _)) (fun a h2 hag => by have h4 := (lr a h2).1; have h5 : a = g := hag; omega)).row))
    have hz : (xs.set k (Value.slice a_r (op (L0[k]'hlt0) (L1[k]'hlt1)).mag.length c_r, Value.slice e_r (op (L0[k]'hlt0) (L1[k]'hlt1)).den.length f_r)).length = n := by rw [List.length_set]; exact hxl
    obtain ⟨u0, u1, u2⟩ : w3.cell? ⟨g, k * 3, none⟩ = some (.bool (op (L0[k]'hlt0) (L1[k]'hlt1)).neg) ∧ w3.cell? ⟨g, k * 3 + 1, none⟩ = some (.slice a_r (op (L0[k]'hlt0) (L1[k]'hlt1)).mag.length c_r) ∧ w3.cell? ⟨g, k * 3 + 2, none⟩ = some (.slice e_r (op (L0[k]'hlt0) (L1[k]'hlt1)).den.length f_r) := by
     have hlen : (zipF op (L0.take (k + 1)) (L1.take (k + 1))).length = k + 1 := zip_lenE HN.out (by rw [← HN1.out]; exact HN.out) (by omega)
     have h9 := O3.cells k (by rw [List.length_append, hlen]; omega) (by rw [hz]; exact hlt)
     rw [List.getElem_set_self, List.getElem_append_left (by omega)] at h9
     have e9 : (zipF op (L0.take (k + 1)) (L1.take (k + 1)))[k]'(by omega) = op (L0[k]'hlt0) (L1[k]'hlt1) := by
      rw [zip_at (by simp; omega) (by simp; omega)]; simp
     rw [e9] at h9
     exact h9
    have O4 := Lib.hid O3
    have B4 := Lib.hid B3
    clear O3 B3 OK hw3 o_r lr hz s0 s1 s2 t0 t1 t2
    cases hq : badF (op (L0[k]'hlt0) (L1[k]'hlt1)) with
    | false =>
     have hq2 : decide ((op (L0[k]'hlt0) (L1[k]'hlt1)).den.length = 0) = false := hq
     go_wp2_with fail
     have T := impl_tooLarge (op (L0[k]'hlt0) (L1[k]'hlt1)).neg _ _ _ _ w3 R3.out
     rw [hq2] at T
     refine T.mono ?_
     rintro e w4 ⟨rfl, b4⟩
     have O5 := Lib.hid (O4.out.below b4)
     have B5 := Lib.hid (B4.out.trans (b4.mono B4.out.size))
     clear b4 T
     go_wp2_with fail
     exact ⟨⟨k + 1, by omega, by go_num, _, O5, Lib.hid (by have h8 := HA.out; unfold fineV at h8 ⊢; rw [zip_take hlt0 hlt1, List.all_append, h8]; simp [hq]), B5⟩, by simp [intOf]; omega⟩
    | true =>
     have hq2 : decide ((op (L0[k]'hlt0) (L1[k]'hlt1)).den.length = 0) = true := hq
     obtain rfl : ZB = false := HZ.out.1.trans (zip_badAt hlt0 hlt1 hq)
     obtain rfl : ZL = [] := HZ.out.2.trans (by unfold cmbL; rw [zip_badAt hlt0 hlt1 hq]; rfl)
     go_wp2_with fail
     have T := impl_tooLarge (op (L0[k]'hlt0) (L1[k]'hlt1)).neg _ _ _ _ w3 R3.out
     rw [hq2] at T
     refine T.mono ?_
     rintro e w4 ⟨rfl, b4⟩
     have B5 := Lib.hid (B4.out.trans (b4.mono B4.out.size))
     clear b4 T
     go_wp2_with fail
     exact bodyPost_ret (v := .tuple #[.slice none 0 0, .bool false]) (by simp [results, Tryz.results113, go_sem]) rfl ⟨.slice none 0 0, [], rfl, OwnV.nil _ _, B5.out⟩
  ·obtain rfl : k = n := by omega
   have hT0 : L0.take k = L0 := by rw [← HN.out, List.take_length]
   have hT1 : L1.take k = L1 := by rw [← HN.out, HN1.out, List.take_length]
   rw [hT0, hT1, Nat.sub_self, List.replicate_zero, List.append_nil] at HK
   rw [hT0, hT1] at HA
   obtain rfl : ZB = true := HZ.out.1.trans HA.out
   obtain rfl : ZL = zipF op L0 L1 := HZ.out.2.trans (by unfold cmbL; rw [HA.out]; rfl)
   go_wp2_with fail
   exact bodyPost_ret (v := .tuple #[.slice (some ⟨g, 0, none⟩) k k, .bool true]) (by simp [results, Tryz.results113, go_sem]) rfl ⟨_, xs, rfl, HK.out.base (Nat.le_of_eq HG.out.symm), HBk.out⟩
set_option maxRecDepth 100000 in
set_option maxHeartbeats 2000000 in
theorem impl_combMul (op : Fr → Fr → Fr)
  (HOP : ∀ (f g : Fr), okF f = true → okF g = true → ∀ v d v' d' w, RowR w v f.mag d f.den → RowR w v' g.mag d' g.den → Calls Tryz.prog 105 #[.agg #[.bool f.neg, v, d], .agg #[.bool g.neg, v', d']] w fun r w' => ∃ x y, r = .returned (.agg #[.bool (op f g).neg, x, y]) ∧ OwnR w' w.heap.size x (op f g).mag y (op f g).den ∧ Below w.heap.size w w')
  (v0 : Value) (L0 : List Fr) (v1 : Value) (L1 : List Fr) (w : World) (h0 : RatsAt w v0 L0) (h1 : RatsAt w v1 L1)
  (hl1 : L0.length = L1.length) (hl2 : L0.length ≤ 600) (E0 : ∀ k (hk : k < L0.length), okF (L0[k]'hk) = true) (E1 : ∀ k (hk : k < L1.length), okF (L1[k]'hk) = true) :
  Calls Tryz.prog 113 #[v0, v1, .func (.func 105) #[] #[]] w fun e w' => ∃ v xs, e = .returned (.tuple #[v, .bool (fineV (zipF op L0 L1))]) ∧ OwnV w' w.heap.size v (cmbL op L0 L1) xs ∧ Below w.heap.size w w' := by
 obtain ⟨ZB, hZB⟩ : ∃ b, b = fineV (zipF op L0 L1) := ⟨_, rfl⟩
 obtain ⟨ZL, hZL⟩ : ∃ b, b = cmbL op L0 L1 := ⟨_, rfl⟩
 rw [← hZB, ← hZL]
 have HZ := Lib.hid (And.intro hZB hZL)
 clear hZB hZL
 have E0 := Lib.hid E0
 have E1 := Lib.hid E1
 obtain ⟨a, cap, rfl, hc, hm, hr⟩ := h0
 obtain ⟨a', cap', rfl, hc', hm', hr'⟩ := h1
 unfold maxLen at hm hm'
 have R := Lib.hid hr
 have R' := Lib.hid hr'
 clear hr hr'
 obtain ⟨n, hnn⟩ : ∃ n, L0.length = n := ⟨_, rfl⟩
 have HN1 := Lib.hid hl1
 rw [hnn] at hl1
 rw [← hl1] at hc' ⊢
 rw [hnn] at hc hl2 ⊢
 have HN := Lib.hid hnn
 have HM := make_rats n (by omega) w
 clear hnn hl1
 go_enter Tryz.func113, Tryz.ntmps113
 go_wp2_with fail
 obtain ⟨W1, hW1⟩ : ∃ x, x = w.alloc (zeroV n) := ⟨_, rfl⟩
 have HO := Lib.hid (show OwnV W1 w.heap.size (.slice (some ⟨w.heap.size, 0, none⟩) n n) (zipF op (L0.take 0) (L1.take 0) ++ List.replicate (n - 0) Fr.zero) _ by rw [hW1]; exact zeroV_own w w.heap.size n (Nat.le_refl _) (by omega))
 have HB := Lib.hid (show Below w.heap.size w W1 by rw [hW1]; exact (Below.refl _ _).alloc (Nat.le_refl _) _)
 rw [← hW1]
 clear hW1 HM
 obtain ⟨g, hg⟩ : ∃ x, x = w.heap.size := ⟨_, rfl⟩
 rw [← hg] at HO
 rw [← hg]
 have HG := Lib.hid hg
 clear hg
 go_loopw [15] (fun iv wr => ∃ (k : Nat), k ≤ n ∧ iv = .int .i64 k ∧ ∃ xs, Hid (OwnV wr g (.slice (some ⟨g, 0, none⟩) n n) (zipF op (L0.take k) (L1.take k) ++ List.replicate (n - k) Fr.zero) xs) ∧ Hid (fineV (zipF op (L0.take k) (L1.take k)) = true) ∧ Hid (Below w.heap.size w wr)) (fun iv _ => n - (intOf iv).toNat)
 case atStart => exact ⟨0, Nat.zero_le _, rfl, _, HO, Lib.hid (by simp [zipF, fineV]), HB⟩
 case round =>
  obtain ⟨k, hk, rfl, xs, HK, HA, HBk⟩ := hrel
  by_cases hlt : k < n
  ·skip
   have hlt0 : k < L0.length := by rw [HN.out]; exact hlt
   have hlt1 : k < L1.length := by rw [← HN1.out, HN.out]; exact hlt
   obtain ⟨b, o, x, y, rfl, c0, c1, c2, hrr⟩ := R.out k hlt0
   obtain ⟨b', o', x', y', rfl, e0, e1, e2, hss⟩ := R'.out k hlt1
   have d0 := (HBk.out.cell (World.block_lt_of_cell? w _ c0)).trans c0
   have d1 := (HBk.out.cell (World.block_lt_of_cell? w _ c1)).trans c1
   have d2 := (HBk.out.cell (World.block_lt_of_cell? w _ c2)).trans c2
   have f0 := (HBk.out.cell (World.block_lt_of_cell? w _ e0)).trans e0
   have f1 := (HBk.out.cell (World.block_lt_of_cell? w _ e1)).trans e1
   have f2 := (HBk.out.cell (World.block_lt_of_cell? w _ e2)).trans e2
   have RR := Lib.hid (hrr.below HBk.out)
   have SS := Lib.hid (hss.below HBk.out)
   have hb0 := World.block_lt_of_cell? w _ e0
   have hb1 := World.block_lt_of_cell? w _ c0
   have NB0 : b ≠ g := by have := HG.out; have h : b < w.heap.size := hb1; omega
   have NB1 : b' ≠ g := by have := HG.out; have h : b' < w.heap.size := hb0; omega
   clear hb0 hb1
   obtain ⟨a1, r1, a2, r2, rfl, rfl, hz1, hz2⟩ := rowR_len hrr
   obtain ⟨a3, r3, a4, r4, rfl, rfl, hz3, hz4⟩ := rowR_len hss
   clear c0 c1 c2 R hrr e0 e1 e2 R' hss
   have hL9 := HK.out.lt
   have L9 := Lib.hid hL9
   have hg9 := (hL9 g (.inl rfl)).2
   clear hL9
   go_upto_region 5 with fail
   have K_r := Lib.hid (fun (W : World) (hW : Below wr.heap.size wr W) => (HOP (L0[k]'hlt0) (L1[k]'hlt1) (E0.out k hlt0) (E1.out k hlt1) _ _ _ _ W (RR.out.below hW) (SS.out.below hW)).mono (R' := fun r w' => ∃ x y, r = .returned (.agg #[.bool (op (L0[k]'hlt0) (L1[k]'hlt1)).neg, x, y]) ∧ OwnR w' wr.heap.size x (op (L0[k]'hlt0) (L1[k]'hlt1)).mag y (op (L0[k]'hlt0) (L1[k]'hlt1)).den ∧ Below wr.heap.size wr w') (fun r w' ⟨x, y, he, hr, hb⟩ => ⟨x, y, he, hr.base hW.size, hW.trans (hb.mono hW.size)⟩))
   have HS := Lib.hid (show ∀ W : World, Below wr.heap.size wr W → (W.cell? ⟨b, o + k * 3, none⟩ = some (.bool (L0[k]'hlt0).neg) ∧ W.cell? ⟨b, o + k * 3 + 1, none⟩ = some (.slice a1 (L0[k]'hlt0).mag.length r1) ∧ W.cell? ⟨b, o + k * 3 + 2, none⟩ = some (.slice a2 (L0[k]'hlt0).den.length r2) ∧ W.cell? ⟨b', o' + k * 3, none⟩ = some (.bool (L1[k]'hlt1).neg) ∧ W.cell? ⟨b', o' + k * 3 + 1, none⟩ = some (.slice a3 (L1[k]'hlt1).mag.length r3) ∧ W.cell? ⟨b', o' + k * 3 + 2, none⟩ = some (.slice a4 (L1[k]'hlt1).den.length r4)) from fun W hW => ⟨(hW.cell (World.block_lt_of_cell? wr _ d0)).trans d0, (hW.cell (World.block_lt_of_cell? wr _ d1)).trans d1, (hW.cell (World.block_lt_of_cell? wr _ d2)).trans d2, (hW.cell (World.block_lt_of_cell? wr _ f0)).trans f0, (hW.cell (World.block_lt_of_cell? wr _ f1)).trans f1, (hW.cell (World.block_lt_of_cell? wr _ f2)).trans f2⟩)
   have hxl : xs.length = n := by have := HK.out.len; rw [List.length_append, List.length_replicate, zip_lenE HN.out (by rw [← HN1.out]; exact HN.out) (by omega)] at this; omega
   have HC := Lib.hid (fun (W : World) (hW : Below wr.heap.size wr W) => And.intro ((HK.out.below hW).cells k (by rw [List.length_append, List.length_replicate, zip_lenE HN.out (by rw [← HN1.out]; exact HN.out) (by omega)]; omega) (by omega)) (And.intro ((HK.out.below hW).frozen (k * 3)) (And.intro ((HK.out.below hW).frozen (k * 3 + 1)) ((HK.out.below hW).frozen (k * 3 + 2)))))
   go_region_held3 (fun w' => w'.cell? ⟨b, o + k * 3, none⟩ = some (.bool (L0[k]'hlt0).neg) ∧ w'.cell? ⟨b, o + k * 3 + 1, none⟩ = some (.slice a1 (L0[k]'hlt0).mag.length r1) ∧ w'.cell? ⟨b, o + k * 3 + 2, none⟩ = some (.slice a2 (L0[k]'hlt0).den.length r2) ∧ w'.cell? ⟨b', o' + k * 3, none⟩ = some (.bool (L1[k]'hlt1).neg) ∧ w'.cell? ⟨b', o' + k * 3 + 1, none⟩ = some (.slice a3 (L1[k]'hlt1).mag.length r3) ∧ w'.cell? ⟨b', o' + k * 3 + 2, none⟩ = some (.slice a4 (L1[k]'hlt1).den.length r4)) (first | exact HS.out _ (by first | with_reducible exact Below.refl _ _ | with_reducible exact (Below.refl _ _).drew | with_reducible exact bb_r | with_reducible exact bb_r.drew | fail) | exact ⟨(cell_farK NB0 _ _ _).trans (HS.out _ bb_r).1, (cell_farK NB0 _ _ _).trans (HS.out _ bb_r).2.1, (cell_farK NB0 _ _ _).trans (HS.out _ bb_r).2.2.1, (cell_farK NB1 _ _ _).trans (HS.out _ bb_r).2.2.2.1, (cell_farK NB1 _ _ _).trans (HS.out _ bb_r).2.2.2.2.1, (cell_farK NB1 _ _ _).trans (HS.out _ bb_r).2.2.2.2.2⟩ | fail)
    (first
     | (go_at_call 105; refine (K_r.out _ (by first | with_reducible exact Below.refl _ _ | with_reducible exact (Below.refl _ _).drew | with_reducible exact bb_r | with_reducible exact bb_r.drew | fail)).mono ?_; rintro e w_r ⟨x_r, y_r, rfl, o_r, bb_r⟩; obtain ⟨a_r, c_r, e_r, f_r, rfl, rfl⟩ := o_r.slices; obtain ⟨⟨s0, s1, s2⟩, t0, t1, t2⟩ := HC.out _ bb_r))
   all_goals
    have OK := HK.out.below bb_r
    have lr := o_r.lt
    have O3 := OK.set3 k (op (L0[k]'hlt0) (L1[k]'hlt1)) _ _ (by rw [List.length_append, List.length_replicate, zip_lenE HN.out (by rw [← HN1.out]; exact HN.out) (by omega)]; omega) (OwnR.base o_r (by omega)) (fun j hj _ a a' h1 h2 => by have h3 := (L9.out a (.inr ⟨_, List.getElem_mem hj, h1⟩)).2; have h4 := (lr a' h2).1; omega) (fun a h2 => by have h4 := (lr a h2).1; omega)
    rw [grow_set (zip_lenE HN.out (by rw [← HN1.out]; exact HN.out) (by omega)) hlt, ← zip_take hlt0 hlt1] at O3
    have B3 := (((HBk.out.trans (bb_r.mono HBk.out.size)).setCell (p := ⟨g, k * 3, none⟩) (Nat.le_of_eq HG.out.symm) (.bool (op (L0[k]'hlt0) (L1[k]'hlt1)).neg)).setCell (p := ⟨g, k * 3 + 1, none⟩) (Nat.le_of_eq HG.out.symm) (.slice a_r (op (L0[k]'hlt0) (L1[k]'hlt1)).mag.length c_r)).setCell (p := ⟨g, k * 3 + 2, none⟩) (Nat.le_of_eq HG.out.symm) (.slice e_r (op (L0[k]'hlt0) (L1[k]'hlt1)).den.length f_r)
    obtain ⟨w3, hw3⟩ : ∃ x, x = ((w_r.setCell ⟨g, k * 3, none⟩ (.bool (op (L0[k]'hlt0) (L1[k]'hlt1)).neg)).setCell ⟨g, k * 3 + 1, none⟩ (.slice a_r (op (L0[k]'hlt0) (L1[k]'hlt1)).mag.length c_r)).setCell ⟨g, k * 3 + 2, none⟩ (.slice e_r (op (L0[k]'hlt0) (L1[k]'hlt1)).den.length f_r) := ⟨_, rfl⟩
    rw [← hw3] at O3 B3
    rw [← hw3]
    have R3 := Lib.hid (show RowR w3 (.slice a_r (op (L0[k]'hlt0) (L1[k]'hlt1)).mag.length c_r) (op (L0[k]'hlt0) (L1[k]'hlt1)).mag (.slice e_r (op (L0[k]'hlt0) (L1[k]'hlt1)).den.length f_r) (op (L0[k]'hlt0) (L1[k]'hlt1)).den from (by rw [hw3]; exact (o_r.kept (((kept_set w_r g (k * 3) _).trans (kept_set _ g (k * 3 + 1) _)).trans (kept_set _ g (k * 3 + 2) _)) (fun a h2 hag => by have h4 := (lr a h2).1; have h5 : a = g := hag; omega)).row))
    have hz : (xs.set k (Value.slice a_r (op (L0[k]'hlt0) (L1[k]'hlt1)).mag.length c_r, Value.slice e_r (op (L0[k]'hlt0) (L1[k]'hlt1)).den.length f_r)).length = n := by rw [List.length_set]; exact hxl
    obtain ⟨u0, u1, u2⟩ : w3.cell? ⟨g, k * 3, none⟩ = some (.bool (op (L0[k]'hlt0) (L1[k]'hlt1)).neg) ∧ w3.cell? ⟨g, k * 3 + 1, none⟩ = some (.slice a_r (op (L0[k]'hlt0) (L1[k]'hlt1)).mag.length c_r) ∧ w3.cell? ⟨g, k * 3 + 2, none⟩ = some (.slice e_r (op (L0[k]'hlt0) (L1[k]'hlt1)).den.length f_r) := by
     have hlen : (zipF op (L0.take (k + 1)) (L1.take (k + 1))).length = k + 1 := zip_lenE HN.out (by rw [← HN1.out]; exact HN.out) (by omega)
     have h9 := O3.cells k (by rw [List.length_append, hlen]; omega) (by rw [hz]; exact hlt)
     rw [List.getElem_set_self, List.getElem_append_left (by omega)] at h9
     have e9 : (zipF op (L0.take (k + 1)) (L1.take (k + 1)))[k]'(by omega) = op (L0[k]'hlt0) (L1[k]'hlt1) := by
      rw [zip_at (by simp; omega) (by simp; omega)]; simp
     rw [e9] at h9
     exact h9
    have O4 := Lib.hid O3
    have B4 := Lib.hid B3
    clear O3 B3 OK hw3 o_r lr hz s0 s1 s2 t0 t1 t2
    cases hq : badF (op (L0[k]'hlt0) (L1[k]'hlt1)) with
    | false =>
     have hq2 : decide ((op (L0[k]'hlt0) (L1[k]'hlt1)).den.length = 0) = false := hq
     go_wp2_with fail
     have T := impl_tooLarge (op (L0[k]'hlt0) (L1[k]'hlt1)).neg _ _ _ _ w3 R3.out
     rw [hq2] at T
     refine T.mono ?_
     rintro e w4 ⟨rfl, b4⟩
     have O5 := Lib.hid (O4.out.below b4)
     have B5 := Lib.hid (B4.out.trans (b4.mono B4.out.size))
     clear b4 T
     go_wp2_with fail
     exact ⟨⟨k + 1, by omega, by go_num, _, O5, Lib.hid (by have h8 := HA.out; unfold fineV at h8 ⊢; rw [zip_take hlt0 hlt1, List.all_append, h8]; simp [hq]), B5⟩, by simp [intOf]; omega⟩
    | true =>
     have hq2 : decide ((op (L0[k]'hlt0) (L1[k]'hlt1)).den.length = 0) = true := hq
     obtain rfl : ZB = false := HZ.out.1.trans (zip_badAt hlt0 hlt1 hq)
     obtain rfl : ZL = [] := HZ.out.2.trans (by unfold cmbL; rw [zip_badAt hlt0 hlt1 hq]; rfl)
     go_wp2_with fail
     have T := impl_tooLarge (op (L0[k]'hlt0) (L1[k]'hlt1)).neg _ _ _ _ w3 R3.out
     rw [hq2] at T
     refine T.mono ?_
     rintro e w4 ⟨rfl, b4⟩
     have B5 := Lib.hid (B4.out.trans (b4.mono B4.out.size))
     clear b4 T
     go_wp2_with fail
     exact bodyPost_ret (v := .tuple #[.slice none 0 0, .bool false]) (by simp [results, Tryz.results113, go_sem]) rfl ⟨.slice none 0 0, [], rfl, OwnV.nil _ _, B5.out⟩
  ·obtain rfl : k = n := by omega
   have hT0 : L0.take k = L0 := by rw [← HN.out, List.take_length]
   have hT1 : L1.take k = L1 := by rw [← HN.out, HN1.out, List.take_length]
   rw [hT0, hT1, Nat.sub_self, List.replicate_zero, List.append_nil] at HK
   rw [hT0, hT1] at HA
   obtain rfl : ZB = true := HZ.out.1.trans HA.out
   obtain rfl : ZL = zipF op L0 L1 := HZ.out.2.trans (by unfold cmbL; rw [HA.out]; rfl)
   go_wp2_with fail
   exact bodyPost_ret (v := .tuple #[.slice (some ⟨g, 0, none⟩) k k, .bool true]) (by simp [results, Tryz.results113, go_sem]) rfl ⟨_, xs, rfl, HK.out.base (Nat.le_of_eq HG.out.symm), HBk.out⟩
end Go.Proofs.YtlepgkkpopjgoaaGreat
namespace Go.Proofs.YtlepgkkpopjgoaaGreat
open Go.RowKit Go.WideShapes Go.ChangeShapes
set_option linter.unusedVariables false
set_option linter.unusedSimpArgs false
theorem szM_le {L : List Fr} (h : ∀ f ∈ L, f.mag.length ≤ 60 ∧ f.den.length ≤ 60) : szL L ≤ L.length * 120 := by
 induction L with
 | nil => simp [szL]
 | cons f L ih =>
  have h1 := h f (List.mem_cons_self ..)
  have h2 := ih (fun g hg => h g (List.mem_cons_of_mem _ hg))
  simp only [szL, List.length_cons]; omega
theorem cntM_le {L : List Fr} (h0 : L.length ≤ 576) (h : ∀ f ∈ L, f.mag.length ≤ 60 ∧ f.den.length ≤ 60) : cntL L ≤ 100000 := by
 have := szM_le h
 unfold cntL; omega
theorem cnt_nil : cntL [] ≤ 100000 := by simp [cntL, szL]
theorem ok_lens {f : Fr} (h : ratOk f.neg f.mag f.den = true) : f.mag.length ≤ 60 ∧ f.den.length ≤ 60 := by
 obtain ⟨b, x, d, rfl, hx, hd, _⟩ := okF_parts (f := f) h
 have h1 := (nlen_le_iff _ _).2 hx
 have h2 := (nlen_le_iff _ _).2 hd
 simp only [limI_length]; omega
theorem spec_copyF (f : Fr) (h : ratOk f.neg f.mag f.den = true) (v d : Value) (w : World) (h0 : RowR w v f.mag d f.den) :
  Calls Tryz.prog 154 #[.agg #[.bool f.neg, v, d]] w fun r w' => ∃ x y, r = .returned (.agg #[.bool f.neg, x, y]) ∧ OwnR w' w.heap.size x f.mag y f.den ∧ Below w.heap.size w w' := by
 obtain ⟨b, x, e, rfl, hx, he, _⟩ := okF_parts (f := f) h
 exact spec_copy b v x d e w h0 hx he
theorem impl_cloneF (f : Fr) (h : ratOk f.neg f.mag f.den = true) (v d : Value) (w : World) (h0 : RowR w v f.mag d f.den) :
  Calls Tryz.prog 102 #[.agg #[.bool f.neg, v, d]] w fun r w' => ∃ x y, r = .returned (.agg #[.bool f.neg, x, y]) ∧ OwnR w' w.heap.size x f.mag y f.den ∧ Below w.heap.size w w' := by
 obtain ⟨b, x, e, rfl, hx, he, _⟩ := okF_parts (f := f) h
 exact impl_cloneR b v x d e w h0 hx he
end Go.Proofs.YtlepgkkpopjgoaaGreat
namespace Go.Proofs.YtlepgkkpopjgoaaGreat
open Go.RowKit Go.WideShapes Go.ChangeShapes
set_option linter.unusedVariables false
set_option linter.unusedSimpArgs false
def KM (w w' : World) : Prop := ∀ p x y z, B3 w p 25 x y z → B3 w' p 25 x y z
theorem KM.refl (w : World) : KM w w := fun _ _ _ _ h => h
theorem KM.trans {a b c : World} (h : KM a b) (k : KM b c) : KM a c := fun _ _ _ _ m => k _ _ _ _ (h _ _ _ _ m)
theorem KM.below {a b : World} (h : Below a.heap.size a b) : KM a b := fun _ _ _ _ m => m.below h
structure MK (w wr : World) (p : Nat) (x y z : Value) : Prop where
 D : B3 wr p 25 x y z
 K : KM w wr
section
variable {w wr : World} {p : Nat} {x y z : Value}
theorem MK.below {w' : World} (h : MK w wr p x y z) (hb : Below wr.heap.size wr w') : MK w w' p x y z := ⟨h.D.below hb, h.K.trans (KM.below hb)⟩
theorem MK.keptK {w' : World} {S : Nat → Prop} (h : MK w wr p x y z) (hk : Kept S wr w') (hn : ∀ q a b c, B3 wr q 25 a b c → ¬ S q) : MK w w' p x y z :=
 ⟨h.D.keptK hk (hn _ _ _ _ h.D), h.K.trans fun _ _ _ _ m => m.keptK hk (hn _ _ _ _ m)⟩
theorem MK.alloc (h : MK w wr p x y z) (o : Obj) : MK w (wr.alloc o) p x y z := ⟨h.D.alloc o, h.K.trans fun _ _ _ _ m => m.alloc o⟩
theorem MK.drew (h : MK w wr p x y z) : MK w wr.drew p x y z := ⟨h.D.drew, fun _ _ _ _ m => (h.K _ _ _ _ m).drew⟩
theorem MK.c0 (h : MK w wr p x y z) : wr.cell? ⟨p, 0, none⟩ = some x := h.D.c0
theorem MK.c1 (h : MK w wr p x y z) : wr.cell? ⟨p, 1, none⟩ = some y := h.D.c1
theorem MK.c2 (h : MK w wr p x y z) : wr.cell? ⟨p, 2, none⟩ = some z := h.D.c2
theorem MK.lt (h : MK w wr p x y z) : p < wr.heap.size := h.D.lt
end
theorem not3 {w : World} {B q n c : Nat} {L : List Fr} {xs : List (Value × Value)} (h : OwnV w B (.slice (some ⟨q, 0, none⟩) n c) L xs) : ∀ p a b d, B3 w p 25 a b d → ¬ p = q :=
 fun p a b d m e => h.not_b3 m (by decide) (by decide) (.inl (by rw [e]; rfl))
set_option maxRecDepth 100000 in
set_option maxHeartbeats 8000000 in
theorem spec_reduceE (R C N cap B : Nat) (a : Option Addr) (L : List Fr) (xs0 : List (Value × Value)) (w : World) (h : OwnV w B (.slice a N cap) L xs0) (hL : L.length = R * C) (hN : N = R * C) (hR : R ≤ 24) (hC : C ≤ 24) (hok : L.all okF = true) (hB : B ≤ w.heap.size) :
  Calls Tryz.prog 79 #[.agg #[.int .i64 (R : Int), .int .i64 (C : Int), .slice a N cap]] w fun e w' => ∃ pv fv xs ps, e = .returned (.tuple #[pv, fv]) ∧ ElS w' B (.slice a N cap) R C (runE R C C (startE L C)) pv fv xs ps ∧ Below B w w' ∧ KM w w' := by
 have hRC : R * C ≤ 24 * 24 := Nat.mul_le_mul hR hC
 have hN9 : N ≤ 576 := by omega
 have HN := Lib.hid hN
 have HX := Lib.hid h
 have HL := Lib.hid hL
 have HB9 := Lib.hid hB
 have E0 := Lib.hid (start_ok hL hok)
 obtain ⟨E, hE⟩ : ∃ E, runE R C C (startE L C) = E := ⟨_, rfl⟩
 have HE := Lib.hid hE
 rw [hE]
 clear h hN hRC hL hok hE
 go_enter Tryz.func79, Tryz.ntmps79
 go_wp2_with fail
 obtain ⟨h0, hh0⟩ : ∃ h0, h0 = w.heap.size := ⟨_, rfl⟩
 obtain ⟨W0, hW0⟩ : ∃ x, x = ((w.alloc (.cells #[.int .i64 (R : Int), .int .i64 (C : Int), .slice a N cap] 25)).alloc (.cells #[] 3)).alloc (.cells #[] 34) := ⟨_, rfl⟩
 have M0 := Lib.hid (show MK w W0 h0 (.int .i64 (R : Int)) (.int .i64 (C : Int)) (.slice a N cap) from ⟨by rw [hW0, hh0]; exact ((B3.new _ _ _ _ _).alloc _).alloc _, fun _ _ _ _ m => by rw [hW0]; exact ((m.alloc _).alloc _).alloc _⟩)
 have S0 := Lib.hid (show ElS W0 B (.slice a N cap) R C (startE L C) (.slice (some ⟨h0 + 1, 0, none⟩) 0 0) (.slice (some ⟨h0 + 1 + 1, 0, none⟩) 0 0) xs0 [] by
  have hlt := HX.out.lt
  refine ⟨?_, ?_, ?_, rfl, fun i hi => by simp [startE] at hi, fun q hq => by simp at hq, fun k hk e => ?_, fun k hk e => ?_, fun k e e' => ?_, fun q hq => by simp at hq⟩
  ·rw [hW0]
   show OwnV _ B _ (tabM R C (elM L C)) xs0
   rw [tabM_self HL.out]
   exact ((HX.out.alloc _).alloc _).alloc _
  ·rw [hW0, hh0]
   have h1 := (OwnI.lit0 (w.alloc (.cells #[.int .i64 (R : Int), .int .i64 (C : Int), .slice a N cap] 25))).base (show B ≤ _ by simp; omega)
   rw [World.size_alloc] at h1
   exact h1.alloc _
  ·rw [hW0, hh0]
   have h1 := (OwnV.lit0 ((w.alloc (.cells #[.int .i64 (R : Int), .int .i64 (C : Int), .slice a N cap] 25)).alloc (.cells #[] 3))).row.mono (show B ≤ _ by simp; omega)
   rw [World.size_alloc, World.size_alloc] at h1
   exact h1
  ·have h1 := (hlt k hk).2
   have h2 : h0 + 1 = k := by simpa [Value.ownBlock] using e
   omega
  ·have h1 := (hlt k hk).2
   have h2 : h0 + 1 + 1 = k := by simpa [Value.ownBlock] using e
   omega
  ·have h1 : h0 + 1 = k := by simpa [Value.ownBlock] using e
   have h2 : h0 + 1 + 1 = k := by simpa [Value.ownBlock] using e'
   omega)
 have B0 := Lib.hid (show Below B w W0 by rw [hW0]; exact (((Below.refl B w).alloc hB _).alloc (by simp; omega) _).alloc (by simp; omega) _)
 have G0 := Lib.hid (show h0 < W0.heap.size by rw [hW0, hh0]; simp; omega)
 have HH := Lib.hid hh0
 rw [← hh0] at hB
 rw [← hW0, ← hh0]
 clear hW0 hh0
 go_loopw [4, 5, 6] (fun pq fq kv wr => ∃ (k : Nat) (e : El) (pv fv : Value) (xs ps : List (Value × Value)), k ≤ C ∧ pv = pq ∧ fv = fq ∧ kv = .int .i64 k ∧ Hid (ElOk R C e k) ∧ Hid (runE R C (C - k) e = E) ∧ Hid (MK w wr h0 (.int .i64 (R : Int)) (.int .i64 (C : Int)) (.slice a N cap)) ∧ Hid (ElS wr B (.slice a N cap) R C e pv fv xs ps) ∧ Hid (Below B w wr)) (fun _ _ kv _ => C - (intOf kv).toNat)
 case atStart => exact ⟨0, startE L C, _, _, xs0, [], Nat.zero_le _, rfl, rfl, rfl, E0, HE, M0, S0, B0⟩
 case round =>
  clear M0 S0 B0 G0 E0 HE
  obtain ⟨k, e, pv, fv, xs, ps, hk, rfl, rfl, rfl, EO, HE, M, S, BB⟩ := hrel
  have HPL := Lib.hid (natV_len e.piv)
  have hn := EO.out.len
  have hfl := EO.out.count
  obtain ⟨pa, pc, hpv⟩ := S.out.P.slice
  have HPV := Lib.hid hpv
  rw [HPL.out] at hpv
  obtain ⟨n, hnn⟩ : ∃ n, e.piv.length = n := ⟨_, rfl⟩
  rw [hnn] at hpv hn
  have HNN := Lib.hid hnn
  clear hnn
  have m0 := M.out.c0
  have m1 := M.out.c1
  have m2 := M.out.c2
  by_cases hlt : k < C
  ·by_cases hnR : n < R
   ·have hN0 : 0 < (tabM R C e.g).length := by rw [tabM_len]; exact Nat.mul_pos (by omega) (by omega)
    obtain ⟨q, c9, hs9, hq1, hq2⟩ := S.out.V.some_at hN0
    injection hs9 with a1 a2 a3
    subst a1
    clear a2 a3 hN0 c9 hq1
    have hqh : q < h0 := by rw [HH.out]; exact (HX.out.lt q (.inl rfl)).2
    -- the search
    subst hpv
    go_wp2_with fail
    go_loopw [8] (fun iv wi => ∃ i : Nat, n ≤ i ∧ i ≤ R ∧ iv = .int .i64 i ∧ Hid (∀ b, n ≤ b → b < i → nilF (e.g b k) = true) ∧ Hid (MK w wi h0 (.int .i64 (R : Int)) (.int .i64 (C : Int)) (.slice (some ⟨q, 0, none⟩) N cap)) ∧ Hid (ElS wi B (.slice (some ⟨q, 0, none⟩) N cap) R C e (.slice pa n pc) fv xs ps) ∧ Hid (Below B w wi)) (fun iv _ => R - (intOf iv).toNat)
    case atStart => exact ⟨n, Nat.le_refl _, by omega, rfl, Lib.hid (fun b h1 h2 => by omega), M, S, BB⟩
    case round =>
     clear M S BB m0 m1 m2
     obtain ⟨i, hni, hi, rfl, NI, M, S, BB⟩ := hrel
     have m0 := M.out.c0
     have m1 := M.out.c1
     have m2 := M.out.c2
     by_cases hil : i < R
     ·have hik : i * C + k < N := by have := at_lt hil hlt; rw [HN.out]; exact this
      obtain ⟨a1, r1, a2, r2, hcc, hrr, hpr, hon⟩ := elem_at S.out.V HN.out hil hlt
      obtain ⟨f, hf⟩ : ∃ f, f = e.g i k := ⟨_, rfl⟩
      rw [← hf] at hcc hrr hpr hon
      have HF := Lib.hid hf
      have HAT := Lib.hid (spec_atE (R : Int) C i k N q cap _ a1 _ r1 a2 _ r2 wr hik hN9 hcc)
      have RR := Lib.hid hrr
      have HPR := Lib.hid hpr
      clear hf hcc hrr hpr hon
      go_wp2_with fail
      refine (HAT.out).mono ?_
      rintro ee w1 ⟨rfl, b1⟩
      replace M := Lib.hid (M.out.below b1)
      replace S := Lib.hid (S.out.below b1)
      replace BB := Lib.hid (BB.out.trans (b1.mono (Nat.le_trans HB9.out BB.out.size)))
      replace RR := Lib.hid (RR.out.below b1)
      clear b1 HAT m0 m1 m2
      cases hq0 : nilF f with
      | true =>
       go_wp2_with fail
       refine (spec_nilF f _ _ _ RR.out).mono ?_
       rw [hq0]
       rintro ee w2 ⟨rfl, b1⟩
       replace M := Lib.hid (M.out.below b1)
       replace S := Lib.hid (S.out.below b1)
       replace BB := Lib.hid (BB.out.trans (b1.mono (Nat.le_trans HB9.out BB.out.size)))
       clear b1
       go_wp2_with fail
       exact ⟨⟨i + 1, by omega, by omega, by go_num, Lib.hid (fun b h1 h2 => by
        by_cases h3 : b = i
        ·rw [h3, ← HF.out]; exact hq0
        ·exact NI.out b h1 (by omega)), M, S, BB⟩, by simp [intOf]; omega⟩
      | false =>
       have HFI := Lib.hid (show firstR e.g k (R - e.piv.length) e.piv.length = i by rw [HNN.out]; exact firstR_of hni hi NI.out (fun _ => by rw [← HF.out]; exact hq0))
       have HSE := Lib.hid (show stepE R e k = useE e i k by unfold stepE; rw [if_pos (by rw [HNN.out]; exact hnR), HFI.out, if_neg (by omega)])
       have HUE := Lib.hid (show (useE e i k).g = clG (dvG (exG e.g i n) n k) n k by unfold useE; rw [HNN.out])
       have HUP := Lib.hid (show (useE e i k).piv = e.piv ++ [k] from rfl)
       have HUF := Lib.hid (show (useE e i k).fac = e.fac ++ (if i = n then [] else [m1F]) ++ [e.g i k] by unfold useE; rw [HNN.out])
       have HGU := Lib.hid (useE_good EO.out.ok hil (by rw [HNN.out]; exact hnR) hlt (by rw [← HF.out]; exact hq0))
       go_wp2_with fail
       refine (spec_nilF f _ _ _ RR.out).mono ?_
       rw [hq0]
       rintro ee w2 ⟨rfl, b1⟩
       replace M := Lib.hid (M.out.below b1)
       replace S := Lib.hid (S.out.below b1)
       replace BB := Lib.hid (BB.out.trans (b1.mono (Nat.le_trans HB9.out BB.out.size)))
       clear b1 HPR RR
       have m0 := M.out.c0
       have m1 := M.out.c1
       have m2 := M.out.c2
       have heR : ((i : Int) == (R : Int)) = false := by rw [beq_eq_false_iff_ne]; omega
       by_cases hin : i = n
       ·have he : ((i : Int) != (n : Int)) = false := by unfold bne; rw [show ((i : Int) == (n : Int)) = true by rw [beq_iff_eq]; omega]; rfl
        have HSW := Lib.hid (show tabM R C (exG e.g i n) = tabM R C e.g by rw [hin, exG_self])
        have SX := Lib.hid (show ElS w2 B (.slice (some ⟨q, 0, none⟩) N cap) R C ⟨exG e.g i n, e.piv, e.fac ++ (if i = n then [] else [m1F])⟩ (.slice pa n pc) fv xs ps by
         rw [if_pos hin, List.append_nil, hin, exG_self]; exact S.out)
        clear S HSW
        obtain ⟨ps', hps'⟩ : ∃ ps', ps' = ps := ⟨_, rfl⟩
        rw [← hps'] at SX
        clear hps'
        go_wp2_with fail
        have hnk : n * C + k < N := by have := at_lt hnR hlt; rw [HN.out]; exact this
        obtain ⟨a3, r3, a4, r4, hc3, hr3, hp3, ho3⟩ := elem_at SX.V' HN.out hnR hlt
        have E3 : exG e.g i n n k = f := (ex_at e.g i n k).trans HF.out.symm
        rw [E3] at hc3 hr3 hp3 ho3
        obtain ⟨hj9, hp3⟩ := hp3
        have HE3 := SX.elem hj9
        rw [hp3] at HE3
        have HAT := Lib.hid (spec_atE (R : Int) C n k N q cap _ a3 _ r3 a4 _ r4 w2 hnk hN9 hc3)
        have R3 := Lib.hid hr3
        have RON := Lib.hid (fun b hb => (ho3 b hb).1)
        have HE3 := Lib.hid HE3
        have SS := Lib.hid SX
        have m0 := M.out.c0
        have m1 := M.out.c1
        have m2 := M.out.c2
        clear hc3 hr3 hp3 ho3 hnk hj9 SX
        go_wp2_with fail
        refine (HAT.out).mono ?_
        rintro ee w5 ⟨rfl, b5⟩
        have HE5 := Lib.hid (fun j hj => (⟨Nat.lt_of_lt_of_le (HE3.out j hj).1 b5.size, (HE3.out j hj).2⟩ : j < w5.heap.size ∧ _))
        have S5 := Lib.hid (SS.out.below b5)
        have BB5 := Lib.hid (BB.out.trans (b5.mono (Nat.le_trans HB9.out BB.out.size)))
        have M5 := Lib.hid (M.out.below b5)
        have R5 := Lib.hid (R3.out.below b5)
        clear b5 HAT HE3 SS BB M R3 m0 m1 m2
        have hB5 : B ≤ w5.heap.size := (Nat.le_trans HB9.out BB5.out.size)
        have d0 := (B3.new w5 34 (.bool f.neg) (.slice a3 f.mag.length r3) (.slice a4 f.den.length r4)).c0
        have d1 := (B3.new w5 34 (.bool f.neg) (.slice a3 f.mag.length r3) (.slice a4 f.den.length r4)).c1
        have d2 := (B3.new w5 34 (.bool f.neg) (.slice a3 f.mag.length r3) (.slice a4 f.den.length r4)).c2
        have bA := ((Below.refl w5.heap.size w5).alloc (Nat.le_refl _) (.cells #[.bool f.neg, .slice a3 f.mag.length r3, .slice a4 f.den.length r4] 34)).alloc (by simp) (.cells #[.bool f.neg, .slice a3 f.mag.length r3, .slice a4 f.den.length r4] 34)
        have HBA := Lib.hid bA
        clear bA
        have hfl2 : (e.fac ++ (if i = n then [] else [m1F])).length ≤ 49 := by
         rw [List.length_append]
         have h9 : (if i = n then ([] : List Fr) else [m1F]).length ≤ 1 := by
          by_cases h8 : i = n
          ·rw [if_pos h8]; exact Nat.zero_le _
          ·rw [if_neg h8]; exact Nat.le_refl _
         omega
        go_wp2_with (at_builtin; refine append_fac rfl _ _ rfl rfl (S5.out.below HBA.out) (Nat.le_trans hfl2 (by omega)) (by simp; omega) _ _ rfl f _ _ _ _ _ _ (alloc_two _ _ _) (R5.out.below HBA.out) (fun j hj => ⟨Nat.lt_of_lt_of_le (HE5.out j hj).1 HBA.out.size, (HE5.out j hj).2⟩) ?_; intro fw w6 S6 g6)
        obtain ⟨p11, hp11⟩ : ∃ p, p = w5.heap.size := ⟨_, rfl⟩
        rw [← hp11]
        have hh5 := M5.out.lt
        have F6 := Lib.hid (show B3 w6 p11 34 (.bool f.neg) (.slice a3 f.mag.length r3) (.slice a4 f.den.length r4) by
         rw [hp11]
         exact (((B3.new w5 34 (.bool f.neg) (.slice a3 f.mag.length r3) (.slice a4 f.den.length r4)).alloc _)).keptK (Kept.of_grown g6) (fun e9 => by have := S5.out.lt_all _ (.inr (.inr (.inl e9))); omega))
        have M6 := Lib.hid ((M5.out.below HBA.out).keptK (Kept.of_grown g6) (fun _ _ _ _ m e9 => ((S5.out.below HBA.out).off3 m).2 e9))
        have R6 := Lib.hid ((R5.out.below HBA.out).keptS (Kept.of_grown g6) (fun b hb e9 => (HE5.out b hb).2.2.2 e9))
        have BB6 := Lib.hid (show Below B w w6 from (BB5.out.trans (HBA.out.mono hB5)).grown g6 (by have := HBA.out.size; omega) (fun b hb => (S5.out.F.lt b hb).1))
        have S6' := Lib.hid S6
        have hqp : q < p11 := by rw [hp11]; exact S5.out.lt_all _ (.inl (.inl rfl))
        have hhp : h0 < p11 := by rw [hp11]; exact hh5
        clear S6 g6 HBA S5 BB5 M5 R5 HE5 d0 d1 d2 hh5 hB5
        clear hp11
        go_wp2_with fail
        go_loopw [12] (fun jv wi => ∃ (j : Nat) (zs : List (Value × Value)), k ≤ j ∧ j ≤ C ∧ jv = .int .i64 j ∧ Hid (MK w wi h0 (.int .i64 (R : Int)) (.int .i64 (C : Int)) (.slice (some ⟨q, 0, none⟩) N cap)) ∧ Hid (B3 wi p11 34 (.bool f.neg) (.slice a3 f.mag.length r3) (.slice a4 f.den.length r4)) ∧ Hid (RowR wi (.slice a3 f.mag.length r3) f.mag (.slice a4 f.den.length r4) f.den) ∧ Hid (ElS wi B (.slice (some ⟨q, 0, none⟩) N cap) R C ⟨dvP (exG e.g i n) n k j, e.piv, (e.fac ++ (if i = n then [] else [m1F])) ++ [f]⟩ (.slice pa n pc) fw zs (ps' ++ [(.slice a3 f.mag.length r3, .slice a4 f.den.length r4)])) ∧ Hid (Below B w wi)) (fun jv _ => C - (intOf jv).toNat)
        case atStart => exact ⟨k, _, Nat.le_refl _, by omega, rfl, M6, F6, R6, Lib.hid (by rw [dvP_zero]; exact S6'.out), BB6⟩
        case round =>
         clear M6 F6 R6 S6' BB6
         obtain ⟨j, zs, hkj, hj, rfl, M, F7, RR, S, BB⟩ := hrel
         have m0 := M.out.c0
         have m1 := M.out.c1
         have m2 := M.out.c2
         by_cases hlj : j < C
         ·have hnj : n * C + j < N := by have := at_lt hnR hlj; rw [HN.out]; exact this
          obtain ⟨a5, r5, a6, r6, hc5, hr5, -, -⟩ := elem_at S.out.V' HN.out hnR hlj
          rw [dvP_at] at hc5 hr5
          have HGy := Lib.hid (EO.out.ok.ex hil (show n < R from hnR) n j hnR hlj)
          obtain ⟨y, hy⟩ : ∃ y, y = exG e.g i n n j := ⟨_, rfl⟩
          rw [← hy] at hc5 hr5 HGy
          have HY := Lib.hid hy
          clear hy
          have HGf := Lib.hid (show okF f = true by rw [HF.out]; exact EO.out.ok i k hil hlt)
          obtain ⟨Z, hZ⟩ : ∃ Z, Z = divX y f := ⟨_, rfl⟩
          have HA := Lib.hid (fun W (hW : Below wr.heap.size wr W) => (spec_atE (R : Int) C n j N q cap _ a5 _ r5 a6 _ r6 W hnj hN9 ⟨(hW.cell (p := ⟨q, (n * C + j) * 3, none⟩) (World.block_lt_of_cell? wr _ hc5.1)).trans hc5.1, (hW.cell (p := ⟨q, (n * C + j) * 3 + 1, none⟩) (World.block_lt_of_cell? wr _ hc5.2.1)).trans hc5.2.1, (hW.cell (p := ⟨q, (n * C + j) * 3 + 2, none⟩) (World.block_lt_of_cell? wr _ hc5.2.2)).trans hc5.2.2⟩).mono (R' := fun e w' => e = .returned (.agg #[.bool y.neg, .slice a5 y.mag.length r5, .slice a6 y.den.length r6]) ∧ Below W.heap.size W w' ∧ Below wr.heap.size wr w') (fun e w' ⟨he, hb⟩ => ⟨he, hb, hW.trans (hb.mono hW.size)⟩))
          have HD := Lib.hid (fun W (hW : Below wr.heap.size wr W) => (spec_divF y f (small_ok HGy.out) (small_ok HGf.out) _ _ _ _ W (hr5.below hW) (RR.out.below hW)).mono (R' := fun e w' => ∃ a c d b, e = .returned (.agg #[.bool Z.neg, .slice a Z.mag.length c, .slice d Z.den.length b]) ∧ OwnR w' wr.heap.size (.slice a Z.mag.length c) Z.mag (.slice d Z.den.length b) Z.den ∧ Below wr.heap.size wr w') (fun e w' ⟨u, v, he, ho, hb⟩ => by
           rw [← hZ] at he ho
           obtain ⟨a, c, d, b, rfl, rfl⟩ := ho.slices
           exact ⟨a, c, d, b, he, ho.base hW.size, hW.trans (hb.mono hW.size)⟩))
          have HZZ := Lib.hid (show (tabM R C (dvP (exG e.g i n) n k j)).set (n * C + j) Z = tabM R C (dvP (exG e.g i n) n k (j + 1)) by
           rw [← dvP_step hkj hlj, hZ, HY.out, ex_at e.g i n k, HF.out])
          obtain ⟨l, hl⟩ : ∃ l, n * C = l := ⟨_, rfl⟩
          have p1 : (n : Int) * (C : Int) = (l : Int) := by rw [← hl, Int.natCast_mul]
          have p2 : (l : Int) + (j : Int) = ((l + j : Nat) : Int) := by omega
          obtain ⟨jj, hjj⟩ : ∃ jj, l + j = jj := ⟨_, rfl⟩
          rw [hjj] at p2
          have hjN : jj < N := by rw [← hjj, ← hl]; exact hnj
          have x1 : (0 : Int) ≤ (jj : Int) := by omega
          have x2 : (jj : Int) < (N : Int) := by omega
          have hl9 : l ≤ 576 := by omega
          have wr1 : IntKind.i64.wrap (l : Int) = (l : Int) := by rw [IntKind.wrap_i64]; omega
          have wr2 : IntKind.i64.wrap (jj : Int) = (jj : Int) := by rw [IntKind.wrap_i64]; omega
          have HJ := Lib.hid (show n * C + j = jj by rw [hl, hjj])
          have VH := Lib.hid (fun W (hW : Below wr.heap.size wr W) => S.out.V'.below hW)
          have HT := Lib.hid (show ∀ W : World, Below wr.heap.size wr W → ((∃ u0, W.cell? ⟨q, jj * 3, none⟩ = some u0) ∧ (∃ u1, W.cell? ⟨q, jj * 3 + 1, none⟩ = some u1) ∧ (∃ u2, W.cell? ⟨q, jj * 3 + 2, none⟩ = some u2)) ∧ W.frozen? ⟨q, jj * 3, none⟩ = false ∧ W.frozen? ⟨q, jj * 3 + 1, none⟩ = false ∧ W.frozen? ⟨q, jj * 3 + 2, none⟩ = false from fun W hW => by
           have OK := VH.out W hW
           obtain ⟨s0, s1, s2⟩ := OK.cells jj (by rw [tabM_len, ← HN.out]; exact hjN) (by rw [OK.len, tabM_len, ← HN.out]; exact hjN)
           exact ⟨⟨⟨_, s0⟩, ⟨_, s1⟩, ⟨_, s2⟩⟩, OK.frozen _, OK.frozen _, OK.frozen _⟩)
          have HS := Lib.hid (show ∀ W : World, Below wr.heap.size wr W → (W.cell? ⟨h0, 0, none⟩ = some (.int .i64 (R : Int)) ∧ W.cell? ⟨h0, 1, none⟩ = some (.int .i64 (C : Int)) ∧ W.cell? ⟨h0, 2, none⟩ = some (.slice (some ⟨q, 0, none⟩) N cap) ∧ W.cell? ⟨p11, 0, none⟩ = some (.bool f.neg) ∧ W.cell? ⟨p11, 1, none⟩ = some (.slice a3 f.mag.length r3) ∧ W.cell? ⟨p11, 2, none⟩ = some (.slice a4 f.den.length r4)) from fun W hW => ⟨(M.out.below hW).c0, (M.out.below hW).c1, (M.out.below hW).c2, (F7.out.below hW).c0, (F7.out.below hW).c1, (F7.out.below hW).c2⟩)
          have f0 := F7.out.c0
          have f1 := F7.out.c1
          have f2 := F7.out.c2
          clear hc5 hr5 hl hjj hZ
          go_wp2_with fail
          go_region_held3 (fun w' => w'.cell? ⟨h0, 0, none⟩ = some (.int .i64 (R : Int)) ∧ w'.cell? ⟨h0, 1, none⟩ = some (.int .i64 (C : Int)) ∧ w'.cell? ⟨h0, 2, none⟩ = some (.slice (some ⟨q, 0, none⟩) N cap) ∧ w'.cell? ⟨p11, 0, none⟩ = some (.bool f.neg) ∧ w'.cell? ⟨p11, 1, none⟩ = some (.slice a3 f.mag.length r3) ∧ w'.cell? ⟨p11, 2, none⟩ = some (.slice a4 f.den.length r4))
           (first | exact HS.out _ (by first | with_reducible exact Below.refl _ _ | with_reducible exact (Below.refl _ _).drew | with_reducible exact bb_a | with_reducible exact bb_b | with_reducible exact bb_m | with_reducible exact bb_s | with_reducible exact bb_d | fail) | exact ⟨(cell_farq (show h0 ≠ q from by omega) _ _ _).trans ((HS.out _ (by first | with_reducible exact Below.refl _ _ | with_reducible exact (Below.refl _ _).drew | with_reducible exact bb_a | with_reducible exact bb_b | with_reducible exact bb_m | with_reducible exact bb_s | with_reducible exact bb_d | fail)).1), (cell_farq (show h0 ≠ q from by omega) _ _ _).trans ((HS.out _ (by first | with_reducible exact Below.refl _ _ | with_reducible exact (Below.refl _ _).drew | with_reducible exact bb_a | with_reducible exact bb_b | with_reducible exact bb_m | with_reducible exact bb_s | with_reducible exact bb_d | fail)).2.1), (cell_farq (show h0 ≠ q from by omega) _ _ _).trans ((HS.out _ (by first | with_reducible exact Below.refl _ _ | with_reducible exact (Below.refl _ _).drew | with_reducible exact bb_a | with_reducible exact bb_b | with_reducible exact bb_m | with_reducible exact bb_s | with_reducible exact bb_d | fail)).2.2.1), (cell_farq (show p11 ≠ q from by omega) _ _ _).trans ((HS.out _ (by first | with_reducible exact Below.refl _ _ | with_reducible exact (Below.refl _ _).drew | with_reducible exact bb_a | with_reducible exact bb_b | with_reducible exact bb_m | with_reducible exact bb_s | with_reducible exact bb_d | fail)).2.2.2.1), (cell_farq (show p11 ≠ q from by omega) _ _ _).trans ((HS.out _ (by first | with_reducible exact Below.refl _ _ | with_reducible exact (Below.refl _ _).drew | with_reducible exact bb_a | with_reducible exact bb_b | with_reducible exact bb_m | with_reducible exact bb_s | with_reducible exact bb_d | fail)).2.2.2.2.1), (cell_farq (show p11 ≠ q from by omega) _ _ _).trans ((HS.out _ (by first | with_reducible exact Below.refl _ _ | with_reducible exact (Below.refl _ _).drew | with_reducible exact bb_a | with_reducible exact bb_b | with_reducible exact bb_m | with_reducible exact bb_s | with_reducible exact bb_d | fail)).2.2.2.2.2)⟩)
           (first
            | (go_at_call 123; refine (HD.out _ (by first | with_reducible exact Below.refl _ _ | with_reducible exact (Below.refl _ _).drew | with_reducible exact bb_a | with_reducible exact bb_b | with_reducible exact bb_m | with_reducible exact bb_s | with_reducible exact bb_d | fail)).mono ?_; rintro ee w_s ⟨a_s, c_s, d_s, b_s, rfl, o_s, bb_s⟩; obtain ⟨⟨⟨v0, s0⟩, ⟨v1, s1⟩, ⟨v2, s2⟩⟩, t0, t1, t2⟩ := HT.out _ bb_s)
            | (go_at_call 96; with_reducible refine (HA.out _ (by first | with_reducible exact Below.refl _ _ | with_reducible exact (Below.refl _ _).drew | with_reducible exact bb_a | with_reducible exact bb_b | with_reducible exact bb_m | with_reducible exact bb_s | with_reducible exact bb_d | fail)).mono ?_; rintro ee w_a ⟨rfl, bw_a, bb_a⟩; obtain ⟨⟨⟨v0, s0⟩, ⟨v1, s1⟩, ⟨v2, s2⟩⟩, t0, t1, t2⟩ := HT.out _ bb_a))
          all_goals (have lr := o_s.lt)
          all_goals (have hBr : B ≤ wr.heap.size := (Nat.le_trans HB9.out BB.out.size))
          all_goals (have L9 := S.out.V.lt)
          all_goals (have hqr : q < wr.heap.size := (L9 q (.inl rfl)).2)
          all_goals (have VF := (VH.out _ bb_s).set3 jj Z _ _ (by rw [tabM_len, ← HN.out]; exact hjN) (OwnR.base o_s hBr) (fun a ha _ r r' e1 e2 => by have h3 := (L9 r (.inr ⟨_, List.getElem_mem ha, e1⟩)).2; have h4 := (lr r' e2).1; omega) (fun r e2 => by have h4 := (lr r e2).1; omega))
          all_goals (have KF := ((kept_set w_s q (jj * 3) (.bool Z.neg)).trans (kept_set _ q (jj * 3 + 1) (.slice a_s Z.mag.length c_s))).trans (kept_set _ q (jj * 3 + 2) (.slice d_s Z.den.length b_s)))
          all_goals (have WB := (Kept.of_below (S := fun j => j = q) bb_s).trans KF)
          all_goals (have BF := Lib.hid ((((BB.out.trans (bb_s.mono hBr)).setCell (p := ⟨q, jj * 3, none⟩) (L9 q (.inl rfl)).1 (.bool Z.neg)).setCell (p := ⟨q, jj * 3 + 1, none⟩) (L9 q (.inl rfl)).1 (.slice a_s Z.mag.length c_s)).setCell (p := ⟨q, jj * 3 + 2, none⟩) (L9 q (.inl rfl)).1 (.slice d_s Z.den.length b_s)))
          all_goals (rw [HJ.out] at HZZ; rw [HZZ.out] at VF)
          all_goals (have MF := Lib.hid (M.out.keptK WB (not3 S.out.V')); have FF := Lib.hid (F7.out.keptK WB (by omega)); have RF := Lib.hid (RR.out.keptS WB RON.out); have SF := Lib.hid (S.out.cells VF WB (fun b hb => .inl (by rw [hb]; rfl)) (onV_set (n := wr.heap.size) (fun r e2 => (lr r e2).1))))
          all_goals clear VF KF WB HT HS HA HD VH o_s s0 s1 s2 t0 t1 t2 bb_s m0 m1 m2 f0 f1 f2 lr L9
          all_goals go_wp2_with fail
          all_goals exact ⟨⟨j + 1, _, by omega, by omega, by go_num, MF, FF, RF, SF, BF⟩, by simp [intOf]; omega⟩
         ·obtain rfl : j = C := by omega
          have SX := S.out.reg (dvP_end (exG e.g i n) n k)
          have SS := Lib.hid SX
          clear SX S RR F7
          have HGD := Lib.hid ((EO.out.ok.ex hil hnR).dv hnR hlt (show nilF (exG e.g i n n k) = false by rw [ex_at, ← HF.out]; exact hq0))
          go_wp2_with fail
          refine (spec_clear R j N n k q cap B _ zs wr SS.out.V' HN.out hR hC hnR hlt HGD.out (Nat.le_trans HB9.out BB.out.size)).mono ?_
          rintro ee w8 ⟨⟨vv, rfl⟩, ys, v8, k8, o8⟩
          have S8 := Lib.hid (SS.out.cells v8 k8 (fun b hb => .inl (by rw [hb]; rfl)) o8)
          have M8 := Lib.hid (M.out.keptK k8 (not3 SS.out.V'))
          have BB8 := Lib.hid (below_kept BB.out k8 (Nat.le_trans HB9.out BB.out.size) (fun b hb => by rw [hb]; exact (SS.out.V.lt q (.inl rfl)).1))
          clear v8 k8 o8 M BB SS m0 m1 m2
          have hB8 : B ≤ w8.heap.size := (Nat.le_trans HB9.out BB8.out.size)
          have HBA := Lib.hid ((Below.refl w8.heap.size w8).alloc (Nat.le_refl _) (.cells #[.int .i64 (k : Int)] 3))
          go_wp2_with (at_builtin; refine append_piv rfl _ _ rfl rfl (S8.out.below HBA.out) (by rw [HNN.out]; omega) (by simp; omega) ⟨w8.heap.size, 0, none⟩ k rfl (cell_one_new _ _ _) ?_; intro pw w9 S9 g9; have m2 := ((M8.out.below HBA.out).keptK (Kept.of_grown g9) (fun _ _ _ _ m e9 => ((S8.out.below HBA.out).off3 m).1 e9)).c2)
          have M9 := Lib.hid ((M8.out.below HBA.out).keptK (Kept.of_grown g9) (fun _ _ _ _ m e9 => ((S8.out.below HBA.out).off3 m).1 e9))
          have BB9 := Lib.hid (show Below B w w9 from (BB8.out.trans (HBA.out.mono hB8)).grown g9 (by have := HBA.out.size; omega) (fun b hb => (S8.out.P.lt b hb).1))
          have HUQ : (⟨clG (dvG (exG e.g i n) n k) n k, e.piv ++ [k], (e.fac ++ (if i = n then [] else [m1F])) ++ [f]⟩ : El) = useE e i k := by unfold useE; rw [HNN.out, HF.out]
          have S9' := Lib.hid (show ElS w9 B (.slice (some ⟨q, 0, none⟩) N cap) R j (useE e i k) pw fw ys (ps' ++ [(.slice a3 f.mag.length r3, .slice a4 f.den.length r4)]) by rw [← HUQ]; exact S9)
          clear S9 g9 HBA S8 M8 BB8 HUQ hB8
          have HFN := Lib.hid (spec_fine (.slice (some ⟨q, 0, none⟩) N cap) (tabM R j (useE e i k).g) w9 S9'.out.V.rats)
          cases hq9 : fineG R j (useE e i k).g with
          | true =>
           have hq9' : fineV (tabM R j (useE e i k).g) = true := hq9
           rw [hq9'] at HFN
           go_wp2_with fail
           refine (HFN.out).mono ?_
           rintro ee w10 ⟨rfl, b1⟩
           have SA := Lib.hid (S9'.out.below b1)
           have MA := Lib.hid (M9.out.below b1)
           have BA := Lib.hid (BB9.out.trans (b1.mono (Nat.le_trans HB9.out BB9.out.size)))
           clear b1 m2 S9' M9 BB9 HFN
           have EU := Lib.hid (show ElOk R j (useE e i k) (k + 1) by have h1 := EO.out.step hlt (by rw [HSE.out]; exact hq9); rw [HSE.out] at h1; exact h1)
           go_wp2_with fail
           exact ⟨⟨k + 1, useE e i k, _, _, _, _, by omega, rfl, rfl, by go_num, EU, Lib.hid (by
            have h1 := HE.out
            rw [show j - k = (j - (k + 1)) + 1 by omega] at h1
            unfold runE at h1
            rw [show j - (j - (k + 1) + 1) = k by omega, HSE.out, if_pos hq9] at h1
            exact h1), MA, SA, BA⟩, by simp [intOf]; omega⟩
          | false =>
           have hq9' : fineV (tabM R j (useE e i k).g) = false := hq9
           rw [hq9'] at HFN
           go_wp2_with fail
           refine (HFN.out).mono ?_
           rintro ee w10 ⟨rfl, b1⟩
           have SA := Lib.hid (S9'.out.below b1)
           have MA := Lib.hid (M9.out.below b1)
           have BA := Lib.hid (BB9.out.trans (b1.mono (Nat.le_trans HB9.out BB9.out.size)))
           clear b1 m2 S9' M9 BB9 HFN
           have HEE := Lib.hid (show useE e i k = E by
            have h1 := HE.out
            rw [show j - k = (j - (k + 1)) + 1 by omega] at h1
            unfold runE at h1
            rw [show j - (j - (k + 1) + 1) = k by omega, HSE.out, if_neg (by rw [hq9]; intro h; cases h)] at h1
            exact h1)
           go_wp2_with fail
           exact bodyPost_ret (v := .tuple #[pw, fw]) (by simp [results, Tryz.results79, go_sem]) rfl ⟨_, _, _, _, rfl, by rw [← HEE.out]; exact SA.out, BA.out, MA.out.K⟩
       ·have he : ((i : Int) != (n : Int)) = true := by unfold bne; rw [show ((i : Int) == (n : Int)) = false by rw [beq_eq_false_iff_ne]; omega]; rfl
        go_wp2_with fail
        refine (spec_m1 _).mono ?_
        rintro ee w3 ⟨ma, mc, md, mb, rfl, om, b1⟩
        have lm := om.lt
        have S3 := S.out.below b1
        have LA := S.out.lt_all
        have SS := Lib.hid S3
        have OM := Lib.hid om
        have BS := Lib.hid (show B ≤ w3.heap.size by have h1 := (Nat.le_trans HB9.out BB.out.size); have h2 := b1.size; omega)
        replace M := Lib.hid (M.out.below b1)
        replace BB := Lib.hid (BB.out.trans (b1.mono (Nat.le_trans HB9.out BB.out.size)))
        have h2s := b1.size
        clear b1 S3 om m0 m1 m2 S
        go_wp2_with (at_builtin; refine append_fac rfl _ _ rfl rfl (SS.out.below ((Below.refl _ _).alloc (Nat.le_refl _) _)) (by omega) (by have := BS.out; simp; omega) _ _ rfl m1F _ _ _ _ _ _ (World.alloc_heap_new _ _) (OM.out.alloc _).row (fun j hj => ⟨by have := (lm j hj).2; simp; omega, fun h1 => by have h3 := (lm j hj).1; have h4 := LA j (.inl (.inl h1)); omega, fun h1 => by have h3 := (lm j hj).1; have h4 := LA j (.inr (.inl h1)); omega, fun h1 => by have h3 := (lm j hj).1; have h4 := LA j (.inr (.inr (.inl h1))); omega⟩) ?_; intro fw w4 S4 g4)
        obtain ⟨ps', hps'⟩ : ∃ ps', ps' = ps ++ [((Value.slice ma m1F.mag.length mc), (Value.slice md m1F.den.length mb))] := ⟨_, rfl⟩
        rw [← hps'] at S4
        have M4 := Lib.hid ((M.out.alloc (.cells #[.bool m1F.neg, .slice ma m1F.mag.length mc, .slice md m1F.den.length mb] 34)).keptK (Kept.of_grown g4) (fun _ _ _ _ m h1 => ((SS.out.below ((Below.refl _ _).alloc (Nat.le_refl _) _)).off3 m).2 h1))
        have BB4 := Lib.hid (show Below B w w4 from (BB.out.alloc BS.out (.cells #[.bool m1F.neg, .slice ma m1F.mag.length mc, .slice md m1F.den.length mb] 34)).grown g4 (by have := BS.out; simp; omega) (fun b hb => (SS.out.F.lt b hb).1))
        have S4' := Lib.hid (show ElS w4 B (.slice (some ⟨q, 0, none⟩) N cap) R C ⟨exP e.g i n 0, e.piv, e.fac ++ (if i = n then [] else [m1F])⟩ (.slice pa n pc) fw xs ps' by rw [exP_zero, if_neg hin]; exact S4)
        clear S4 M BB OM lm LA SS BS g4 h2s hps'
        have hq0' := hq0
        go_wp2_with fail
        go_loopw [9] (fun jv wi => ∃ (j : Nat) (zs : List (Value × Value)), j ≤ C ∧ jv = .int .i64 j ∧ Hid (MK w wi h0 (.int .i64 (R : Int)) (.int .i64 (C : Int)) (.slice (some ⟨q, 0, none⟩) N cap)) ∧ Hid (ElS wi B (.slice (some ⟨q, 0, none⟩) N cap) R C ⟨exP e.g i n j, e.piv, e.fac ++ (if i = n then [] else [m1F])⟩ (.slice pa n pc) fw zs ps') ∧ Hid (Below B w wi)) (fun jv _ => C - (intOf jv).toNat)
        case atStart => exact ⟨0, xs, Nat.zero_le _, rfl, M4, S4', BB4⟩
        case round =>
         clear M4 S4' BB4
         obtain ⟨j, xs, hj, rfl, M, S, BB⟩ := hrel
         have m0 := M.out.c0
         have m1 := M.out.c1
         have m2 := M.out.c2
         by_cases hlj : j < C
         ·have hnj : n * C + j < N := by have := at_lt hnR hlj; rw [HN.out]; exact this
          have hij : i * C + j < N := by have := at_lt hil hlj; rw [HN.out]; exact this
          obtain ⟨a3, r3, a4, r4, hc3, hr3, hp3, -⟩ := elem_at S.out.V' HN.out hnR hlj
          obtain ⟨a5, r5, a6, r6, hc5, hr5, hp5, -⟩ := elem_at S.out.V' HN.out hil hlj
          have E3 : exP e.g i n j n j = e.g n j := by unfold exP; rw [if_neg (by omega)]
          have E5 : exP e.g i n j i j = e.g i j := by unfold exP; rw [if_neg (by omega)]
          rw [E3] at hc3 hr3 hp3
          rw [E5] at hc5 hr5 hp5
          obtain ⟨y, hy⟩ : ∃ y, y = e.g n j := ⟨_, rfl⟩
          obtain ⟨x, hx⟩ : ∃ x, x = e.g i j := ⟨_, rfl⟩
          rw [← hy] at hc3 hr3 hp3 E3
          rw [← hx] at hc5 hr5 hp5 E5
          have HXY := Lib.hid (And.intro hx hy)
          clear hx hy
          obtain ⟨l, hl⟩ : ∃ l, i * C = l := ⟨_, rfl⟩
          have p1 : (i : Int) * (C : Int) = (l : Int) := by rw [← hl, Int.natCast_mul]
          have p2 : (l : Int) + (j : Int) = ((l + j : Nat) : Int) := by omega
          obtain ⟨jj, hjj⟩ : ∃ jj, l + j = jj := ⟨_, rfl⟩
          rw [hjj] at p2
          obtain ⟨l2, hl2⟩ : ∃ l, n * C = l := ⟨_, rfl⟩
          have p3 : (n : Int) * (C : Int) = (l2 : Int) := by rw [← hl2, Int.natCast_mul]
          have p4 : (l2 : Int) + (j : Int) = ((l2 + j : Nat) : Int) := by omega
          obtain ⟨jn, hjn⟩ : ∃ jj, l2 + j = jj := ⟨_, rfl⟩
          rw [hjn] at p4
          have HJ := Lib.hid (show i * C + j = jj by rw [hl, hjj])
          have HJ2 := Lib.hid (show n * C + j = jn by rw [hl2, hjn])
          rw [HJ.out] at hc5 hij
          rw [HJ2.out] at hc3 hnj
          have hl9 : l ≤ 576 := by omega
          have hl8 : l2 ≤ 576 := by omega
          have x1 : (0 : Int) ≤ (jj : Int) := by omega
          have x2 : (jj : Int) < (N : Int) := by omega
          have x3 : (0 : Int) ≤ (jn : Int) := by omega
          have x4 : (jn : Int) < (N : Int) := by omega
          have wr1 : IntKind.i64.wrap (l : Int) = (l : Int) := by rw [IntKind.wrap_i64]; omega
          have wr2 : IntKind.i64.wrap (jj : Int) = (jj : Int) := by rw [IntKind.wrap_i64]; omega
          have wr3 : IntKind.i64.wrap (l2 : Int) = (l2 : Int) := by rw [IntKind.wrap_i64]; omega
          have wr4 : IntKind.i64.wrap (jn : Int) = (jn : Int) := by rw [IntKind.wrap_i64]; omega
          have HP3 := Lib.hid hp3
          have HP5 := Lib.hid hp5
          obtain ⟨p10, hp10⟩ : ∃ p, p = wr.heap.size := ⟨_, rfl⟩
          obtain ⟨W1, hW1⟩ : ∃ x9, x9 = wr.alloc (.cells #[.bool x.neg, .slice a5 x.mag.length r5, .slice a6 x.den.length r6] 34) := ⟨_, rfl⟩
          have b1 := (show Below wr.heap.size wr W1 by rw [hW1]; exact (Below.refl _ _).alloc (Nat.le_refl _) _)
          have HW := Lib.hid hW1.symm
          have HP := Lib.hid hp10.symm
          have hqp : q < p10 := by rw [hp10]; exact S.out.lt_all _ (.inl (.inl rfl))
          have hhp : h0 < p10 := by rw [hp10]; exact M.out.lt
          have F7 := Lib.hid (show B3 W1 p10 34 (.bool x.neg) (.slice a5 x.mag.length r5) (.slice a6 x.den.length r6) by rw [hW1, hp10]; exact B3.new _ _ _ _ _)
          have S1 := Lib.hid (S.out.below b1)
          have M1 := Lib.hid (M.out.below b1)
          have BB1 := Lib.hid (BB.out.trans (b1.mono (Nat.le_trans HB9.out BB.out.size)))
          clear hW1 hp10
          have y0 := hc5.1
          have y1 := hc5.2.1
          have y2 := hc5.2.2
          go_upto_region 17 with fail
          clear y0 y1 y2 m0 m1 m2
          rw [HW.out, HP.out]
          clear HW HP S M BB
          have OK := S1.out.V'
          have s0 := (b1.cell (p := ⟨q, jj * 3, none⟩) (World.block_lt_of_cell? wr _ hc5.1)).trans hc5.1
          have s1 := (b1.cell (p := ⟨q, jj * 3 + 1, none⟩) (World.block_lt_of_cell? wr _ hc5.2.1)).trans hc5.2.1
          have s2 := (b1.cell (p := ⟨q, jj * 3 + 2, none⟩) (World.block_lt_of_cell? wr _ hc5.2.2)).trans hc5.2.2
          have u0 := (b1.cell (p := ⟨q, jn * 3, none⟩) (World.block_lt_of_cell? wr _ hc3.1)).trans hc3.1
          have u1 := (b1.cell (p := ⟨q, jn * 3 + 1, none⟩) (World.block_lt_of_cell? wr _ hc3.2.1)).trans hc3.2.1
          have u2 := (b1.cell (p := ⟨q, jn * 3 + 2, none⟩) (World.block_lt_of_cell? wr _ hc3.2.2)).trans hc3.2.2
          have t0 := OK.frozen (jj * 3)
          have t1 := OK.frozen (jj * 3 + 1)
          have t2 := OK.frozen (jj * 3 + 2)
          have m0 := M1.out.c0
          have m1 := M1.out.c1
          have m2 := M1.out.c2
          have HB1 := Lib.hid b1
          have HC3 := Lib.hid hc3
          have HC5 := Lib.hid hc5
          clear b1 hc3 hc5 hr3 hr5 hp3 hp5 OK
          go_region
          clear s0 s1 s2 u0 u1 u2 t0 t1 t2 m0 m1 m2
          obtain ⟨ys, SWV, SWO⟩ := swap_at S1.out.V' hil hnR hlj HP5.out HP3.out HJ.out HJ2.out
          have KF := kept6 W1 q jj jn (.bool y.neg) (.slice a3 y.mag.length r3) (.slice a4 y.den.length r4) (.bool x.neg) (.slice a5 x.mag.length r5) (.slice a6 x.den.length r6)
          rw [E3, E5] at SWV
          dsimp only at SWV
          rw [show ((tabM R C (exP e.g i n j)).set (i * C + j) y).set (n * C + j) x = tabM R C (exP e.g i n (j + 1)) by rw [HXY.out.2, HXY.out.1]; exact exP_step hil hnR hlj] at SWV
          have SW := Lib.hid (S1.out.swapped SWV SWO KF)
          have MW := Lib.hid (M1.out.keptK KF (not3 S1.out.V'))
          have BW := Lib.hid (below_kept BB1.out KF (Nat.le_trans HB9.out BB1.out.size) (fun b hb => by rw [hb]; exact (S1.out.V'.lt q (.inl rfl)).1))
          have K3 := kept3 W1 q jj (.bool y.neg) (.slice a3 y.mag.length r3) (.slice a4 y.den.length r4)
          have M2 := M1.out.keptK K3 (not3 S1.out.V')
          have F2 := F7.out.keptK K3 (by omega)
          have m0 := M2.c0
          have m1 := M2.c1
          have m2 := M2.c2
          have f0 := F2.c0
          have f1 := F2.c1
          have f2 := F2.c2
          obtain ⟨⟨v0, s0⟩, ⟨v1, s1⟩, ⟨v2, s2⟩, t0, t1, t2⟩ := S1.out.V'.after3 jj jn (.bool y.neg) (.slice a3 y.mag.length r3) (.slice a4 y.den.length r4) (by rw [tabM_len, ← HN.out]; exact hnj) rfl
          clear SWV SWO KF K3 M2 F2 S1 M1 BB1 F7
          generalize ((W1.setCell ⟨q, jj * 3, none⟩ (.bool y.neg)).setCell ⟨q, jj * 3 + 1, none⟩ (.slice a3 y.mag.length r3)).setCell ⟨q, jj * 3 + 2, none⟩ (.slice a4 y.den.length r4) = W2 at SW MW BW m0 m1 m2 f0 f1 f2 s0 s1 s2 t0 t1 t2 ⊢
          go_wp2_with fail
          exact ⟨⟨j + 1, ys, by omega, by go_num, Lib.hid MW.out.drew, Lib.hid SW.out.drew, Lib.hid BW.out.drew⟩, by simp [intOf]; omega⟩
         ·have hjC : C = j := by omega
          subst hjC
          have SX := S.out.reg (exP_end e.g i n)
          clear S
          go_wp2_with fail
          have hnk : n * C + k < N := by have := at_lt hnR hlt; rw [HN.out]; exact this
          obtain ⟨a3, r3, a4, r4, hc3, hr3, hp3, ho3⟩ := elem_at SX.V' HN.out hnR hlt
          have E3 : exG e.g i n n k = f := (ex_at e.g i n k).trans HF.out.symm
          rw [E3] at hc3 hr3 hp3 ho3
          obtain ⟨hj9, hp3⟩ := hp3
          have HE3 := SX.elem hj9
          rw [hp3] at HE3
          have HAT := Lib.hid (spec_atE (R : Int) C n k N q cap _ a3 _ r3 a4 _ r4 wr hnk hN9 hc3)
          have R3 := Lib.hid hr3
          have RON := Lib.hid (fun b hb => (ho3 b hb).1)
          have HE3 := Lib.hid HE3
          have SS := Lib.hid SX
          have m0 := M.out.c0
          have m1 := M.out.c1
          have m2 := M.out.c2
          clear hc3 hr3 hp3 ho3 hnk hj9 SX
          go_wp2_with fail
          refine (HAT.out).mono ?_
          rintro ee w5 ⟨rfl, b5⟩
          have HE5 := Lib.hid (fun j hj => (⟨Nat.lt_of_lt_of_le (HE3.out j hj).1 b5.size, (HE3.out j hj).2⟩ : j < w5.heap.size ∧ _))
          have S5 := Lib.hid (SS.out.below b5)
          have BB5 := Lib.hid (BB.out.trans (b5.mono (Nat.le_trans HB9.out BB.out.size)))
          have M5 := Lib.hid (M.out.below b5)
          have R5 := Lib.hid (R3.out.below b5)
          clear b5 HAT HE3 SS BB M R3 m0 m1 m2
          have hB5 : B ≤ w5.heap.size := (Nat.le_trans HB9.out BB5.out.size)
          have d0 := (B3.new w5 34 (.bool f.neg) (.slice a3 f.mag.length r3) (.slice a4 f.den.length r4)).c0
          have d1 := (B3.new w5 34 (.bool f.neg) (.slice a3 f.mag.length r3) (.slice a4 f.den.length r4)).c1
          have d2 := (B3.new w5 34 (.bool f.neg) (.slice a3 f.mag.length r3) (.slice a4 f.den.length r4)).c2
          have bA := ((Below.refl w5.heap.size w5).alloc (Nat.le_refl _) (.cells #[.bool f.neg, .slice a3 f.mag.length r3, .slice a4 f.den.length r4] 34)).alloc (by simp) (.cells #[.bool f.neg, .slice a3 f.mag.length r3, .slice a4 f.den.length r4] 34)
          have HBA := Lib.hid bA
          clear bA
          have hfl2 : (e.fac ++ (if i = n then [] else [m1F])).length ≤ 49 := by
           rw [List.length_append]
           have h9 : (if i = n then ([] : List Fr) else [m1F]).length ≤ 1 := by
            by_cases h8 : i = n
            ·rw [if_pos h8]; exact Nat.zero_le _
            ·rw [if_neg h8]; exact Nat.le_refl _
           omega
          go_wp2_with (at_builtin; refine append_fac rfl _ _ rfl rfl (S5.out.below HBA.out) (Nat.le_trans hfl2 (by omega)) (by simp; omega) _ _ rfl f _ _ _ _ _ _ (alloc_two _ _ _) (R5.out.below HBA.out) (fun j hj => ⟨Nat.lt_of_lt_of_le (HE5.out j hj).1 HBA.out.size, (HE5.out j hj).2⟩) ?_; intro fw w6 S6 g6)
          obtain ⟨p11, hp11⟩ : ∃ p, p = w5.heap.size := ⟨_, rfl⟩
          rw [← hp11]
          have hh5 := M5.out.lt
          have F6 := Lib.hid (show B3 w6 p11 34 (.bool f.neg) (.slice a3 f.mag.length r3) (.slice a4 f.den.length r4) by
           rw [hp11]
           exact (((B3.new w5 34 (.bool f.neg) (.slice a3 f.mag.length r3) (.slice a4 f.den.length r4)).alloc _)).keptK (Kept.of_grown g6) (fun e9 => by have := S5.out.lt_all _ (.inr (.inr (.inl e9))); omega))
          have M6 := Lib.hid ((M5.out.below HBA.out).keptK (Kept.of_grown g6) (fun _ _ _ _ m e9 => ((S5.out.below HBA.out).off3 m).2 e9))
          have R6 := Lib.hid ((R5.out.below HBA.out).keptS (Kept.of_grown g6) (fun b hb e9 => (HE5.out b hb).2.2.2 e9))
          have BB6 := Lib.hid (show Below B w w6 from (BB5.out.trans (HBA.out.mono hB5)).grown g6 (by have := HBA.out.size; omega) (fun b hb => (S5.out.F.lt b hb).1))
          have S6' := Lib.hid S6
          have hqp : q < p11 := by rw [hp11]; exact S5.out.lt_all _ (.inl (.inl rfl))
          have hhp : h0 < p11 := by rw [hp11]; exact hh5
          clear S6 g6 HBA S5 BB5 M5 R5 HE5 d0 d1 d2 hh5 hB5
          clear hp11
          go_wp2_with fail
          go_loopw [12] (fun jv wi => ∃ (j : Nat) (zs : List (Value × Value)), k ≤ j ∧ j ≤ C ∧ jv = .int .i64 j ∧ Hid (MK w wi h0 (.int .i64 (R : Int)) (.int .i64 (C : Int)) (.slice (some ⟨q, 0, none⟩) N cap)) ∧ Hid (B3 wi p11 34 (.bool f.neg) (.slice a3 f.mag.length r3) (.slice a4 f.den.length r4)) ∧ Hid (RowR wi (.slice a3 f.mag.length r3) f.mag (.slice a4 f.den.length r4) f.den) ∧ Hid (ElS wi B (.slice (some ⟨q, 0, none⟩) N cap) R C ⟨dvP (exG e.g i n) n k j, e.piv, (e.fac ++ (if i = n then [] else [m1F])) ++ [f]⟩ (.slice pa n pc) fw zs (ps' ++ [(.slice a3 f.mag.length r3, .slice a4 f.den.length r4)])) ∧ Hid (Below B w wi)) (fun jv _ => C - (intOf jv).toNat)
          case atStart => exact ⟨k, _, Nat.le_refl _, by omega, rfl, M6, F6, R6, Lib.hid (by rw [dvP_zero]; exact S6'.out), BB6⟩
          case round =>
           clear M6 F6 R6 S6' BB6
           obtain ⟨j, zs, hkj, hj, rfl, M, F7, RR, S, BB⟩ := hrel
           have m0 := M.out.c0
           have m1 := M.out.c1
           have m2 := M.out.c2
           by_cases hlj : j < C
           ·have hnj : n * C + j < N := by have := at_lt hnR hlj; rw [HN.out]; exact this
            obtain ⟨a5, r5, a6, r6, hc5, hr5, -, -⟩ := elem_at S.out.V' HN.out hnR hlj
            rw [dvP_at] at hc5 hr5
            have HGy := Lib.hid (EO.out.ok.ex hil (show n < R from hnR) n j hnR hlj)
            obtain ⟨y, hy⟩ : ∃ y, y = exG e.g i n n j := ⟨_, rfl⟩
            rw [← hy] at hc5 hr5 HGy
            have HY := Lib.hid hy
            clear hy
            have HGf := Lib.hid (show okF f = true by rw [HF.out]; exact EO.out.ok i k hil hlt)
            obtain ⟨Z, hZ⟩ : ∃ Z, Z = divX y f := ⟨_, rfl⟩
            have HA := Lib.hid (fun W (hW : Below wr.heap.size wr W) => (spec_atE (R : Int) C n j N q cap _ a5 _ r5 a6 _ r6 W hnj hN9 ⟨(hW.cell (p := ⟨q, (n * C + j) * 3, none⟩) (World.block_lt_of_cell? wr _ hc5.1)).trans hc5.1, (hW.cell (p := ⟨q, (n * C + j) * 3 + 1, none⟩) (World.block_lt_of_cell? wr _ hc5.2.1)).trans hc5.2.1, (hW.cell (p := ⟨q, (n * C + j) * 3 + 2, none⟩) (World.block_lt_of_cell? wr _ hc5.2.2)).trans hc5.2.2⟩).mono (R' := fun e w' => e = .returned (.agg #[.bool y.neg, .slice a5 y.mag.length r5, .slice a6 y.den.length r6]) ∧ Below W.heap.size W w' ∧ Below wr.heap.size wr w') (fun e w' ⟨he, hb⟩ => ⟨he, hb, hW.trans (hb.mono hW.size)⟩))
            have HD := Lib.hid (fun W (hW : Below wr.heap.size wr W) => (spec_divF y f (small_ok HGy.out) (small_ok HGf.out) _ _ _ _ W (hr5.below hW) (RR.out.below hW)).mono (R' := fun e w' => ∃ a c d b, e = .returned (.agg #[.bool Z.neg, .slice a Z.mag.length c, .slice d Z.den.length b]) ∧ OwnR w' wr.heap.size (.slice a Z.mag.length c) Z.mag (.slice d Z.den.length b) Z.den ∧ Below wr.heap.size wr w') (fun e w' ⟨u, v, he, ho, hb⟩ => by
             rw [← hZ] at he ho
             obtain ⟨a, c, d, b, rfl, rfl⟩ := ho.slices
             exact ⟨a, c, d, b, he, ho.base hW.size, hW.trans (hb.mono hW.size)⟩))
            have HZZ := Lib.hid (show (tabM R C (dvP (exG e.g i n) n k j)).set (n * C + j) Z = tabM R C (dvP (exG e.g i n) n k (j + 1)) by
             rw [← dvP_step hkj hlj, hZ, HY.out, ex_at e.g i n k, HF.out])
            obtain ⟨l, hl⟩ : ∃ l, n * C = l := ⟨_, rfl⟩
            have p1 : (n : Int) * (C : Int) = (l : Int) := by rw [← hl, Int.natCast_mul]
            have p2 : (l : Int) + (j : Int) = ((l + j : Nat) : Int) := by omega
            obtain ⟨jj, hjj⟩ : ∃ jj, l + j = jj := ⟨_, rfl⟩
            rw [hjj] at p2
            have hjN : jj < N := by rw [← hjj, ← hl]; exact hnj
            have x1 : (0 : Int) ≤ (jj : Int) := by omega
            have x2 : (jj : Int) < (N : Int) := by omega
            have hl9 : l ≤ 576 := by omega
            have wr1 : IntKind.i64.wrap (l : Int) = (l : Int) := by rw [IntKind.wrap_i64]; omega
            have wr2 : IntKind.i64.wrap (jj : Int) = (jj : Int) := by rw [IntKind.wrap_i64]; omega
            have HJ := Lib.hid (show n * C + j = jj by rw [hl, hjj])
            have VH := Lib.hid (fun W (hW : Below wr.heap.size wr W) => S.out.V'.below hW)
            have HT := Lib.hid (show ∀ W : World, Below wr.heap.size wr W → ((∃ u0, W.cell? ⟨q, jj * 3, none⟩ = some u0) ∧ (∃ u1, W.cell? ⟨q, jj * 3 + 1, none⟩ = some u1) ∧ (∃ u2, W.cell? ⟨q, jj * 3 + 2, none⟩ = some u2)) ∧ W.frozen? ⟨q, jj * 3, none⟩ = false ∧ W.frozen? ⟨q, jj * 3 + 1, none⟩ = false ∧ W.frozen? ⟨q, jj * 3 + 2, none⟩ = false from fun W hW => by
             have OK := VH.out W hW
             obtain ⟨s0, s1, s2⟩ := OK.cells jj (by rw [tabM_len, ← HN.out]; exact hjN) (by rw [OK.len, tabM_len, ← HN.out]; exact hjN)
             exact ⟨⟨⟨_, s0⟩, ⟨_, s1⟩, ⟨_, s2⟩⟩, OK.frozen _, OK.frozen _, OK.frozen _⟩)
            have HS := Lib.hid (show ∀ W : World, Below wr.heap.size wr W → (W.cell? ⟨h0, 0, none⟩ = some (.int .i64 (R : Int)) ∧ W.cell? ⟨h0, 1, none⟩ = some (.int .i64 (C : Int)) ∧ W.cell? ⟨h0, 2, none⟩ = some (.slice (some ⟨q, 0, none⟩) N cap) ∧ W.cell? ⟨p11, 0, none⟩ = some (.bool f.neg) ∧ W.cell? ⟨p11, 1, none⟩ = some (.slice a3 f.mag.length r3) ∧ W.cell? ⟨p11, 2, none⟩ = some (.slice a4 f.den.length r4)) from fun W hW => ⟨(M.out.below hW).c0, (M.out.below hW).c1, (M.out.below hW).c2, (F7.out.below hW).c0, (F7.out.below hW).c1, (F7.out.below hW).c2⟩)
            have f0 := F7.out.c0
            have f1 := F7.out.c1
            have f2 := F7.out.c2
            clear hc5 hr5 hl hjj hZ
            go_wp2_with fail
            go_region_held3 (fun w' => w'.cell? ⟨h0, 0, none⟩ = some (.int .i64 (R : Int)) ∧ w'.cell? ⟨h0, 1, none⟩ = some (.int .i64 (C : Int)) ∧ w'.cell? ⟨h0, 2, none⟩ = some (.slice (some ⟨q, 0, none⟩) N cap) ∧ w'.cell? ⟨p11, 0, none⟩ = some (.bool f.neg) ∧ w'.cell? ⟨p11, 1, none⟩ = some (.slice a3 f.mag.length r3) ∧ w'.cell? ⟨p11, 2, none⟩ = some (.slice a4 f.den.length r4))
             (first | exact HS.out _ (by first | with_reducible exact Below.refl _ _ | with_reducible exact (Below.refl _ _).drew | with_reducible exact bb_a | with_reducible exact bb_b | with_reducible exact bb_m | with_reducible exact bb_s | with_reducible exact bb_d | fail) | exact ⟨(cell_farq (show h0 ≠ q from by omega) _ _ _).trans ((HS.out _ (by first | with_reducible exact Below.refl _ _ | with_reducible exact (Below.refl _ _).drew | with_reducible exact bb_a | with_reducible exact bb_b | with_reducible exact bb_m | with_reducible exact bb_s | with_reducible exact bb_d | fail)).1), (cell_farq (show h0 ≠ q from by omega) _ _ _).trans ((HS.out _ (by first | with_reducible exact Below.refl _ _ | with_reducible exact (Below.refl _ _).drew | with_reducible exact bb_a | with_reducible exact bb_b | with_reducible exact bb_m | with_reducible exact bb_s | with_reducible exact bb_d | fail)).2.1), (cell_farq (show h0 ≠ q from by omega) _ _ _).trans ((HS.out _ (by first | with_reducible exact Below.refl _ _ | with_reducible exact (Below.refl _ _).drew | with_reducible exact bb_a | with_reducible exact bb_b | with_reducible exact bb_m | with_reducible exact bb_s | with_reducible exact bb_d | fail)).2.2.1), (cell_farq (show p11 ≠ q from by omega) _ _ _).trans ((HS.out _ (by first | with_reducible exact Below.refl _ _ | with_reducible exact (Below.refl _ _).drew | with_reducible exact bb_a | with_reducible exact bb_b | with_reducible exact bb_m | with_reducible exact bb_s | with_reducible exact bb_d | fail)).2.2.2.1), (cell_farq (show p11 ≠ q from by omega) _ _ _).trans ((HS.out _ (by first | with_reducible exact Below.refl _ _ | with_reducible exact (Below.refl _ _).drew | with_reducible exact bb_a | with_reducible exact bb_b | with_reducible exact bb_m | with_reducible exact bb_s | with_reducible exact bb_d | fail)).2.2.2.2.1), (cell_farq (show p11 ≠ q from by omega) _ _ _).trans ((HS.out _ (by first | with_reducible exact Below.refl _ _ | with_reducible exact (Below.refl _ _).drew | with_reducible exact bb_a | with_reducible exact bb_b | with_reducible exact bb_m | with_reducible exact bb_s | with_reducible exact bb_d | fail)).2.2.2.2.2)⟩)
             (first
              | (go_at_call 123; refine (HD.out _ (by first | with_reducible exact Below.refl _ _ | with_reducible exact (Below.refl _ _).drew | with_reducible exact bb_a | with_reducible exact bb_b | with_reducible exact bb_m | with_reducible exact bb_s | with_reducible exact bb_d | fail)).mono ?_; rintro ee w_s ⟨a_s, c_s, d_s, b_s, rfl, o_s, bb_s⟩; obtain ⟨⟨⟨v0, s0⟩, ⟨v1, s1⟩, ⟨v2, s2⟩⟩, t0, t1, t2⟩ := HT.out _ bb_s)
              | (go_at_call 96; with_reducible refine (HA.out _ (by first | with_reducible exact Below.refl _ _ | with_reducible exact (Below.refl _ _).drew | with_reducible exact bb_a | with_reducible exact bb_b | with_reducible exact bb_m | with_reducible exact bb_s | with_reducible exact bb_d | fail)).mono ?_; rintro ee w_a ⟨rfl, bw_a, bb_a⟩; obtain ⟨⟨⟨v0, s0⟩, ⟨v1, s1⟩, ⟨v2, s2⟩⟩, t0, t1, t2⟩ := HT.out _ bb_a))
            all_goals (have lr := o_s.lt)
            all_goals (have hBr : B ≤ wr.heap.size := (Nat.le_trans HB9.out BB.out.size))
            all_goals (have L9 := S.out.V.lt)
            all_goals (have hqr : q < wr.heap.size := (L9 q (.inl rfl)).2)
            all_goals (have VF := (VH.out _ bb_s).set3 jj Z _ _ (by rw [tabM_len, ← HN.out]; exact hjN) (OwnR.base o_s hBr) (fun a ha _ r r' e1 e2 => by have h3 := (L9 r (.inr ⟨_, List.getElem_mem ha, e1⟩)).2; have h4 := (lr r' e2).1; omega) (fun r e2 => by have h4 := (lr r e2).1; omega))
            all_goals (have KF := ((kept_set w_s q (jj * 3) (.bool Z.neg)).trans (kept_set _ q (jj * 3 + 1) (.slice a_s Z.mag.length c_s))).trans (kept_set _ q (jj * 3 + 2) (.slice d_s Z.den.length b_s)))
            all_goals (have WB := (Kept.of_below (S := fun j => j = q) bb_s).trans KF)
            all_goals (have BF := Lib.hid ((((BB.out.trans (bb_s.mono hBr)).setCell (p := ⟨q, jj * 3, none⟩) (L9 q (.inl rfl)).1 (.bool Z.neg)).setCell (p := ⟨q, jj * 3 + 1, none⟩) (L9 q (.inl rfl)).1 (.slice a_s Z.mag.length c_s)).setCell (p := ⟨q, jj * 3 + 2, none⟩) (L9 q (.inl rfl)).1 (.slice d_s Z.den.length b_s)))
            all_goals (rw [HJ.out] at HZZ; rw [HZZ.out] at VF)
            all_goals (have MF := Lib.hid (M.out.keptK WB (not3 S.out.V')); have FF := Lib.hid (F7.out.keptK WB (by omega)); have RF := Lib.hid (RR.out.keptS WB RON.out); have SF := Lib.hid (S.out.cells VF WB (fun b hb => .inl (by rw [hb]; rfl)) (onV_set (n := wr.heap.size) (fun r e2 => (lr r e2).1))))
            all_goals clear VF KF WB HT HS HA HD VH o_s s0 s1 s2 t0 t1 t2 bb_s m0 m1 m2 f0 f1 f2 lr L9
            all_goals go_wp2_with fail
            all_goals exact ⟨⟨j + 1, _, by omega, by omega, by go_num, MF, FF, RF, SF, BF⟩, by simp [intOf]; omega⟩
           ·obtain rfl : j = C := by omega
            have SX := S.out.reg (dvP_end (exG e.g i n) n k)
            have SS := Lib.hid SX
            clear SX S RR F7
            have HGD := Lib.hid ((EO.out.ok.ex hil hnR).dv hnR hlt (show nilF (exG e.g i n n k) = false by rw [ex_at, ← HF.out]; exact hq0))
            go_wp2_with fail
            refine (spec_clear R j N n k q cap B _ zs wr SS.out.V' HN.out hR hC hnR hlt HGD.out (Nat.le_trans HB9.out BB.out.size)).mono ?_
            rintro ee w8 ⟨⟨vv, rfl⟩, ys, v8, k8, o8⟩
            have S8 := Lib.hid (SS.out.cells v8 k8 (fun b hb => .inl (by rw [hb]; rfl)) o8)
            have M8 := Lib.hid (M.out.keptK k8 (not3 SS.out.V'))
            have BB8 := Lib.hid (below_kept BB.out k8 (Nat.le_trans HB9.out BB.out.size) (fun b hb => by rw [hb]; exact (SS.out.V.lt q (.inl rfl)).1))
            clear v8 k8 o8 M BB SS m0 m1 m2
            have hB8 : B ≤ w8.heap.size := (Nat.le_trans HB9.out BB8.out.size)
            have HBA := Lib.hid ((Below.refl w8.heap.size w8).alloc (Nat.le_refl _) (.cells #[.int .i64 (k : Int)] 3))
            go_wp2_with (at_builtin; refine append_piv rfl _ _ rfl rfl (S8.out.below HBA.out) (by rw [HNN.out]; omega) (by simp; omega) ⟨w8.heap.size, 0, none⟩ k rfl (cell_one_new _ _ _) ?_; intro pw w9 S9 g9; have m2 := ((M8.out.below HBA.out).keptK (Kept.of_grown g9) (fun _ _ _ _ m e9 => ((S8.out.below HBA.out).off3 m).1 e9)).c2)
            have M9 := Lib.hid ((M8.out.below HBA.out).keptK (Kept.of_grown g9) (fun _ _ _ _ m e9 => ((S8.out.below HBA.out).off3 m).1 e9))
            have BB9 := Lib.hid (show Below B w w9 from (BB8.out.trans (HBA.out.mono hB8)).grown g9 (by have := HBA.out.size; omega) (fun b hb => (S8.out.P.lt b hb).1))
            have HUQ : (⟨clG (dvG (exG e.g i n) n k) n k, e.piv ++ [k], (e.fac ++ (if i = n then [] else [m1F])) ++ [f]⟩ : El) = useE e i k := by unfold useE; rw [HNN.out, HF.out]
            have S9' := Lib.hid (show ElS w9 B (.slice (some ⟨q, 0, none⟩) N cap) R j (useE e i k) pw fw ys (ps' ++ [(.slice a3 f.mag.length r3, .slice a4 f.den.length r4)]) by rw [← HUQ]; exact S9)
            clear S9 g9 HBA S8 M8 BB8 HUQ hB8
            have HFN := Lib.hid (spec_fine (.slice (some ⟨q, 0, none⟩) N cap) (tabM R j (useE e i k).g) w9 S9'.out.V.rats)
            cases hq9 : fineG R j (useE e i k).g with
            | true =>
             have hq9' : fineV (tabM R j (useE e i k).g) = true := hq9
             rw [hq9'] at HFN
             go_wp2_with fail
             refine (HFN.out).mono ?_
             rintro ee w10 ⟨rfl, b1⟩
             have SA := Lib.hid (S9'.out.below b1)
             have MA := Lib.hid (M9.out.below b1)
             have BA := Lib.hid (BB9.out.trans (b1.mono (Nat.le_trans HB9.out BB9.out.size)))
             clear b1 m2 S9' M9 BB9 HFN
             have EU := Lib.hid (show ElOk R j (useE e i k) (k + 1) by have h1 := EO.out.step hlt (by rw [HSE.out]; exact hq9); rw [HSE.out] at h1; exact h1)
             go_wp2_with fail
             exact ⟨⟨k + 1, useE e i k, _, _, _, _, by omega, rfl, rfl, by go_num, EU, Lib.hid (by
              have h1 := HE.out
              rw [show j - k = (j - (k + 1)) + 1 by omega] at h1
              unfold runE at h1
              rw [show j - (j - (k + 1) + 1) = k by omega, HSE.out, if_pos hq9] at h1
              exact h1), MA, SA, BA⟩, by simp [intOf]; omega⟩
            | false =>
             have hq9' : fineV (tabM R j (useE e i k).g) = false := hq9
             rw [hq9'] at HFN
             go_wp2_with fail
             refine (HFN.out).mono ?_
             rintro ee w10 ⟨rfl, b1⟩
             have SA := Lib.hid (S9'.out.below b1)
             have MA := Lib.hid (M9.out.below b1)
             have BA := Lib.hid (BB9.out.trans (b1.mono (Nat.le_trans HB9.out BB9.out.size)))
             clear b1 m2 S9' M9 BB9 HFN
             have HEE := Lib.hid (show useE e i k = E by
              have h1 := HE.out
              rw [show j - k = (j - (k + 1)) + 1 by omega] at h1
              unfold runE at h1
              rw [show j - (j - (k + 1) + 1) = k by omega, HSE.out, if_neg (by rw [hq9]; intro h; cases h)] at h1
              exact h1)
             go_wp2_with fail
             exact bodyPost_ret (v := .tuple #[pw, fw]) (by simp [results, Tryz.results79, go_sem]) rfl ⟨_, _, _, _, rfl, by rw [← HEE.out]; exact SA.out, BA.out, MA.out.K⟩
     ·obtain rfl : i = R := by omega
      have HSE := Lib.hid (show stepE i e k = e by
       unfold stepE
       rw [if_pos (by rw [HNN.out]; exact hnR), if_pos (by rw [HNN.out]; exact firstR_of hni (Nat.le_refl _) NI.out (fun h => by omega))])
      have HFE := Lib.hid ((fineG_iff EO.out.ok.good).2 EO.out.ok)
      have heR : ((i : Int) == (i : Int)) = true := by rw [beq_iff_eq]
      go_wp2_with fail
      exact ⟨⟨k + 1, e, _, fv, xs, ps, by omega, rfl, rfl, by go_num, Lib.hid EO.out.same, Lib.hid (by
       have h1 := HE.out
       rw [show C - k = (C - (k + 1)) + 1 by omega] at h1
       unfold runE at h1
       rw [show C - (C - (k + 1) + 1) = k by omega, HSE.out, if_pos HFE.out] at h1
       exact h1), M, S, BB⟩, by simp [intOf]; omega⟩
   ·have HEE := Lib.hid (show e = E by rw [← HE.out]; exact (runE_full (by rw [HNN.out]; exact hnR) ((fineG_iff EO.out.ok.good).2 EO.out.ok) _).symm)
    subst hpv
    go_wp2_with fail
    exact bodyPost_ret (v := .tuple #[.slice pa n pc, fv]) (by simp [results, Tryz.results79, go_sem]) rfl ⟨_, _, xs, ps, rfl, by rw [← HEE.out]; exact S.out, BB.out, M.out.K⟩
  ·obtain rfl : k = C := by omega
   have HEE := Lib.hid (show e = E by have h1 := HE.out; rw [Nat.sub_self] at h1; exact h1)
   subst hpv
   go_wp2_with fail
   exact bodyPost_ret (v := .tuple #[.slice pa n pc, fv]) (by simp [results, Tryz.results79, go_sem]) rfl ⟨_, _, xs, ps, rfl, by rw [← HEE.out]; exact S.out, BB.out, M.out.K⟩
end Go.Proofs.YtlepgkkpopjgoaaGreat
namespace Go.Proofs.YtlepgkkpopjgoaaGreat
open Go.RowKit Go.WideShapes Go.ChangeShapes
set_option linter.unusedVariables false
set_option linter.unusedSimpArgs false
theorem OwnI.set_b3 {w : World} {B p : Nat} {v : Value} {l : List Int} {t : TypeId} {x y z : Value} (h : OwnI w B v l) (D : B3 w p t x y z) (h2 : t ≠ 3) (j : Nat) (u : Value) : OwnI (w.setCell ⟨p, j, none⟩ u) B v l :=
 h.kept (kept_set w p j u) (fun k hk e => by
  subst e
  rcases h.2 with ⟨rfl, _⟩ | ⟨g1, cap1, cur1, rfl, _, hg1, _⟩
  ·simp [Value.ownBlock] at hk
  ·have e1 : g1 = k := by simpa [Value.ownBlock] using hk
   subst e1
   have D' : w.heap[g1]? = some (.cells #[x, y, z] t (0, 0)) := D
   rw [hg1] at D'
   injection D' with D'
   injection D' with _ h3 _
   exact h2 h3.symm)
theorem OwnI.set3_b3 {w : World} {B p : Nat} {v : Value} {l : List Int} {t : TypeId} {x y z : Value} (h : OwnI w B v l) (D : B3 w p t x y z) (h2 : t ≠ 3) (a b c : Value) :
  OwnI (((w.setCell ⟨p, 0, none⟩ a).setCell ⟨p, 1, none⟩ b).setCell ⟨p, 2, none⟩ c) B v l :=
 ((h.set_b3 D h2 0 a).set_b3 (D.set0 a) h2 1 b).set_b3 ((D.set0 a).set1 b) h2 2 c
theorem all_okF {L : List Fr} (h : ∀ k (hk : k < L.length), ratOk (L[k]'hk).neg (L[k]'hk).mag (L[k]'hk).den = true) : L.all okF = true := by
 rw [List.all_eq_true]
 intro f hf
 obtain ⟨i, hi, rfl⟩ := List.getElem_of_mem hf
 exact h i hi
theorem runE_start_ok {R C : Nat} {L : List Fr} (hL : L.length = R * C) (h : L.all okF = true) : GoodM R C (runE R C C (startE L C)).g ∧ (fineG R C (runE R C C (startE L C)).g = true → ElOk R C (runE R C C (startE L C)) C) :=
 runE_ok C _ (Nat.le_refl _) (by rw [Nat.sub_self]; exact start_ok hL h)
end Go.Proofs.YtlepgkkpopjgoaaGreat
