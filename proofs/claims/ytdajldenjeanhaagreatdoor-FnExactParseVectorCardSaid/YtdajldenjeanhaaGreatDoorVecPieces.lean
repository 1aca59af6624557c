/- The pieces of a text of a vector, and what they are put together to. -/
import Derived.Test.YtdajldenjeanhaaGreatDoorVecFmt
import Derived.Test.YtdajldenjeanhaaGreatDoorParseRat
import Derived.Test.YtdajldenjeanhaaGreatDoorVecApp
namespace Go.Proofs.YtdajldenjeanhaaGreatDoor
open Go.RowKit Go.WideShapes Go.ChangeShapes
set_option linter.unusedVariables false
set_option linter.unusedSimpArgs false

def pieces (p : UInt8 → Bool) (s : ByteArray) (k : Nat) : List (List UInt8) := ((cutTo p s k).1 ++ [s.extract (cutTo p s k).2 k]).map (·.data.toList)
theorem extract_succ (s : ByteArray) (f k : Nat) (hf : f ≤ k) (hk : k < s.size) : (s.extract f (k + 1)).data.toList = (s.extract f k).data.toList ++ [s[k]'hk] := by
  rw [Lib.extract_data, Lib.extract_data, show k + 1 - f = (k - f) + 1 by omega, List.take_succ_eq_append_getElem (by simp; have : s.data.size = s.size := rfl; omega)]
  congr 1
  simp only [List.getElem_drop, Array.getElem_toList]
  congr 1
  have : f + (k - f) = k := by omega
  simp only [this]
  rfl
theorem pieces_join (s : ByteArray) (sep : UInt8) : ∀ k, k ≤ s.size → Lib.join (pieces (hasB ⟨#[sep]⟩) s k) [sep] = s.data.toList.take k
  | 0, _ => by
    simp only [pieces, cutTo, List.nil_append, List.map_cons, List.map_nil, Lib.join_one]
    rw [Lib.extract_data]; simp
  | k + 1, hk => by
    have ih := pieces_join s sep k (by omega)
    have hkk : k < s.size := by omega
    have hb := (cutTo_bound (hasB ⟨#[sep]⟩) s k).1
    have ht : s.data.toList.take (k + 1) = s.data.toList.take k ++ [s[k]'hkk] := by
      rw [List.take_succ_eq_append_getElem (by simpa using hkk)]
      simp only [Array.getElem_toList]
      rfl
    by_cases hp : hasB ⟨#[sep]⟩ (s[k]'hkk) = true
    · have hs : s[k]'hkk = sep := by
        unfold hasB at hp
        simpa using hp
      have he : (s.extract (k + 1) (k + 1)).data.toList = [] := by rw [Lib.extract_data]; simp
      unfold pieces at ih ⊢
      rw [cutTo_yes hkk hp]
      simp only
      rw [List.map_append (l₂ := [s.extract (k + 1) (k + 1)]), List.map_cons, List.map_nil, he, join_snoc _ _ _ (by simp), ih, ht, hs, List.append_nil]
    · have hp' : hasB ⟨#[sep]⟩ (s[k]'hkk) = false := by simpa using hp
      unfold pieces at ih ⊢
      rw [cutTo_no hkk hp']
      rw [List.map_append, List.map_cons, List.map_nil, extract_succ s _ k hb hkk, ht, ← ih, List.map_append, List.map_cons, List.map_nil]
      by_cases hx : (cutTo (hasB ⟨#[sep]⟩) s k).1 = []
      · rw [hx]; simp only [List.map_nil, List.nil_append, Lib.join_one]
      · rw [join_snoc _ _ _ (by simpa using hx), join_snoc _ _ _ (by simpa using hx)]
        simp
theorem joined_back (s : ByteArray) (sep : UInt8) : (⟨(joinK (cutAll (hasB ⟨#[sep]⟩) s) ⟨#[sep]⟩ (cutAll (hasB ⟨#[sep]⟩) s).length).toArray⟩ : ByteArray) = s := by
  have h := pieces_join s sep s.size (Nat.le_refl _)
  rw [joinK_all]
  have e : (cutAll (hasB ⟨#[sep]⟩) s).map (·.data.toList) = pieces (hasB ⟨#[sep]⟩) s s.size := rfl
  rw [e]
  have h2 : Lib.join (pieces (hasB ⟨#[sep]⟩) s s.size) (⟨#[sep]⟩ : ByteArray).data.toList = s.data.toList := by
    have : (⟨#[sep]⟩ : ByteArray).data.toList = [sep] := rfl
    rw [this, h, List.take_of_length_le (by simp)]
  rw [h2]

/-- what was read as a fraction is written alike, and is valid -/
theorem pr_text {s : ByteArray} (h : prOk s = true) : ratText (prB s) (prZ s) (prD s) = s ∧ ratOk (prB s) (prZ s) (prD s) = true := by
  obtain ⟨e1, e2, e3⟩ := pr_yes h
  unfold prOk at h
  simp only [Bool.and_eq_true] at h
  obtain ⟨⟨⟨h1, h2⟩, h3⟩, h4⟩ := h
  rw [e1, e2, e3]
  refine ⟨?_, h3⟩
  have hd := parseL_yes h2
  rw [hd] at h3 ⊢
  cases hq : sQ s with
  | false =>
    obtain ⟨_, ht, hb, _⟩ := sQ_no hq
    have hn : numV (sBot s) = 1 := by rw [hb]; exact one_num.2
    rw [ratText_one h3 hn, bigText_parse h1, ht]
  | true =>
    have hn : ¬ numV (sBot s) = 1 := by
      intro e
      rw [hq, decide_eq_true e] at h4
      cases h4
    rw [ratText_more h3 hn, ← hd, natText_parse h2, bigText_parse h1, slash_join hq]
def sepB : UInt8 → Bool := hasB ⟨#[32]⟩
def cutV (s : ByteArray) : List ByteArray := cutAll sepB s
theorem cut_size {p : UInt8 → Bool} {s : ByteArray} : ∀ k, k ≤ s.size → ∀ t ∈ (cutTo p s k).1, t.size ≤ s.size
  | 0, _ => by intro t ht; simp [cutTo] at ht
  | k + 1, hk => by
    intro t ht
    by_cases hp : p (s[k]'(by omega)) = true
    · rw [cutTo_yes (by omega) hp] at ht
      simp only [List.mem_append, List.mem_singleton] at ht
      rcases ht with ht | ht
      · exact cut_size k (by omega) t ht
      · rw [ht, ByteArray.size_extract]; omega
    · rw [cutTo_no (by omega) (by simpa using hp)] at ht
      exact cut_size k (by omega) t ht
theorem cutV_size {s : ByteArray} : ∀ t ∈ cutV s, t.size ≤ s.size := by
  intro t ht
  unfold cutV cutAll at ht
  rw [List.mem_append] at ht
  rcases ht with ht | ht
  · exact cut_size _ (Nat.le_refl _) t ht
  · rw [List.mem_singleton.1 ht, ByteArray.size_extract]; omega
def prF (t : ByteArray) : Fr := ⟨prB t, prZ t, prD t⟩
/-- the answer of ParseVector -/
def pvOk (s : ByteArray) : Bool := decide (s.size = 0) || ((cutV s).all prOk && decide ((cutV s).length ≤ 24))
def pvL (s : ByteArray) : List Fr := if s.size = 0 then [] else if (cutV s).all prOk && decide ((cutV s).length ≤ 24) then (cutV s).map prF else []
theorem pv_zero {s : ByteArray} (h : s.size = 0) : pvOk s = true ∧ pvL s = [] := by unfold pvOk pvL; rw [if_pos h, decide_eq_true h]; exact ⟨rfl, rfl⟩
theorem pv_no {s : ByteArray} (h0 : ¬ s.size = 0) (h : ((cutV s).all prOk && decide ((cutV s).length ≤ 24)) = false) : pvOk s = false ∧ pvL s = [] := by unfold pvOk pvL; rw [if_neg h0, decide_eq_false h0, h]; exact ⟨rfl, rfl⟩
theorem pv_yes {s : ByteArray} (h0 : ¬ s.size = 0) (h : ((cutV s).all prOk && decide ((cutV s).length ≤ 24)) = true) : pvOk s = true ∧ pvL s = (cutV s).map prF := by unfold pvOk pvL; rw [if_neg h0, decide_eq_false h0, h]; exact ⟨rfl, rfl⟩
theorem pv_vec {P : List ByteArray} (h : P.all prOk = true) : vecB ratOk (P.map prF) = decide (P.length ≤ 24) := by
  unfold vecB
  have e : (P.map prF).all (fun f => ratOk f.neg f.mag f.den) = true := by
    rw [List.all_eq_true]
    intro f hf
    obtain ⟨t, ht, rfl⟩ := List.mem_map.1 hf
    exact (pr_text (List.all_eq_true.1 h t ht)).2
  rw [e, List.length_map, Bool.and_true]
theorem pv_parts {P : List ByteArray} (h : P.all prOk = true) : partsV (P.map prF) = P := by
  unfold partsV
  rw [List.map_map]
  conv => rhs; rw [← List.map_id P]
  apply List.map_congr_left
  intro t ht
  exact (pr_text (List.all_eq_true.1 h t ht)).1
theorem pv_text {s : ByteArray} (h : (cutV s).all prOk = true) (hl : (cutV s).length ≤ 24) : vecT ((cutV s).map prF) = s := by
  unfold vecT
  rw [pv_vec h, decide_eq_true hl, pv_parts h]
  exact joined_back s 32
theorem pv_len (s : ByteArray) : cntL (pvL s) ≤ 100000 := by
  have key : ∀ L : List Fr, (∀ f ∈ L, f.mag.length ≤ 1000 ∧ f.den.length ≤ 1000) → szL L ≤ L.length * 2000 := by
    intro L h
    induction L with
    | nil => simp [szL]
    | cons f L ih =>
      have h1 := h f (List.mem_cons_self ..)
      have h2 := ih (fun g hg => h g (List.mem_cons_of_mem _ hg))
      simp only [szL, List.length_cons]; omega
  have hk : ∀ f ∈ pvL s, f.mag.length ≤ 1000 ∧ f.den.length ≤ 1000 := by
    intro f hf
    unfold pvL at hf
    split at hf
    · simp at hf
    · split at hf
      · obtain ⟨t, _, rfl⟩ := List.mem_map.1 hf
        exact ⟨prZ_len t, prD_len t⟩
      · simp at hf
  have hl : (pvL s).length ≤ 24 := by
    unfold pvL
    split
    · simp
    · split
      · rename_i h
        simp only [Bool.and_eq_true, decide_eq_true_eq] at h
        rw [List.length_map]; exact h.2
      · simp
  have := key _ hk
  unfold cntL; omega
set_option maxRecDepth 100000 in
/-- append(out, r) to a long vector -/
theorem append_ratL {ops : Array Oper} {rest : List Oper} {o : Oper} {a : Act} {Q : Exit → Act → World → Prop} {w : World} (hgd : o.guard = none) (s x : Operand)
    (ho : o.op = .call { callee := .builtin .append, args := #[s, x], argTypes := #[25, 25] })
    (B : Nat) (v : Value) (L : List Fr) (xs : List (Value × Value)) (hs : a.eval s = v) (hown : OwnV w B v L xs) (hL : L.length ≤ 4000000) (hB : B ≤ w.heap.size)
    (g c : Nat) (hx : a.eval x = .slice (some ⟨g, 0, none⟩) 1 c) (f : Fr) (p q : Value) (hblk : w.heap[g]? = some (.cells #[.bool f.neg, p, q] 43 (0, 0))) (hf : OwnR w B p f.mag q f.den)
    (hne : ∀ i (hi : i < xs.length) r r', ((xs[i]'hi).1.ownBlock = some r ∨ (xs[i]'hi).2.ownBlock = some r) → (p.ownBlock = some r' ∨ q.ownBlock = some r') → r ≠ r')
    (hnr : ∀ r, p.ownBlock = some r ∨ q.ownBlock = some r → v.ownBlock ≠ some r)
    (h : ∀ v' w', OwnV w' B v' (L ++ [f]) (xs ++ [(p, q)]) → w.grownBy w' v.ownBlock → (∀ k, v'.ownBlock = some k → v.ownBlock = some k ∨ w.heap.size ≤ k) → wpList Tryz.prog ops Q rest (a.put o.dst v') w') : wpList Tryz.prog ops Q (o :: rest) a w := by
  obtain ⟨i0, hi, hz0, hz1, hz2⟩ := info_parts info_rat
  obtain ⟨a1, c1, a2, c2, rfl, rfl⟩ := hf.slices
  refine Go.wpList_append_lies w hgd s x 25 ho B 43 i0 _ 3 56 Tryz.underlying25 hi hz0 hz1 hz2 rfl (by decide) v L.length (flat L xs) hs hown.row ⟨g, 0, none⟩ 1 c
    [.bool f.neg, .slice a1 f.mag.length c1, .slice a2 f.den.length c2] hx rfl (World.news_of_block hblk) (by intro u hu; simp at hu; rcases hu with rfl | rfl | rfl <;> rfl) (by decide) (by unfold maxLen; omega) (by omega) hB w.heap.size rfl ?_
  intro g' cap w' hr hg hgg _
  exact h _ w' (hown.snoc hf hne hnr hg hr) hg (fun k hk => by
    have e : g' = k := by simpa [Value.ownBlock] using hk
    subst e
    rcases hgg with e | e
    · exact .inl e
    · exact .inr (by omega))

end Go.Proofs.YtdajldenjeanhaaGreatDoor
