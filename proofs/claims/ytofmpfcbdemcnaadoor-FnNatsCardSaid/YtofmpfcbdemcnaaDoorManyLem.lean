/- lemmas for divideByMany: the copy, the rows, the rounds. -/
import Derived.Test.YtofmpfcbdemcnaaDoorDivInt
import Derived.Test.YtofmpfcbdemcnaaDoorKnuth
import Derived.Laws.CopyOwn
import Derived.Deep.RegionWith
namespace Go.Proofs.YtofmpfcbdemcnaaDoor
open Go.RowKit Go.Shelf Go.WideShapes
set_option maxRecDepth 100000

attribute [local go_sem] Oper.semAt_some wide_fn

theorem limI_one {s : Nat} (h0 : 0 < s) (h1 : s < 1000000000) : limI s = [(s : Int)] := by
  have h : nlen s = 0 + 1 := nlen_eq (by rw [pw_succ, pw_zero]; omega) (by rw [pw_zero]; omega)
  unfold limI
  rw [h]
  simp [listF, List.range_succ, dig, pw]
  omega
theorem knA_desc (v n U kq : Nat) (hv : nlen v = n + 2) (hU : U < v * pw kq) : ∀ k, k ≤ kq → (knA v n U (descN kq k)).1 = U % (v * pw (kq - k)) ∧ ∀ j, j < kq → (knA v n U (descN kq k)).2 j = if kq - k ≤ j then digF (U / v) j else 0
  | 0, _ => by
    refine ⟨by rw [descN_zero, Nat.sub_zero, Nat.mod_eq_of_lt hU]; rfl, fun j hj => ?_⟩
    rw [if_neg (by omega)]; rfl
  | k + 1, h => by
    have h3 : 0 < v := by have := (nlen_pos_iff v); omega
    obtain ⟨ih1, ih2⟩ := knA_desc v n U kq hv hU k (by omega)
    obtain ⟨i, hi⟩ : ∃ i, kq - 1 - k = i := ⟨_, rfl⟩
    rw [descN_succ, knA_snoc, hi]
    rw [show kq - k = i + 1 by omega] at ih1 ih2
    rw [show kq - (k + 1) = i by omega]
    have hk := kn_right (R := U % (v * pw (i + 1))) hv (mod_lt_mul h3)
    unfold knF
    rw [ih1, hk.1, hk.2, kn_rest, kn_digit]
    refine ⟨rfl, fun j hj => ?_⟩
    show (if j = i then _ else _) = _
    by_cases e : j = i
    · subst e; rw [if_pos rfl, if_pos (Nat.le_refl _)]; rfl
    · rw [if_neg e, ih2 j hj]
      by_cases h1 : i + 1 ≤ j
      · rw [if_pos h1, if_pos (by omega)]
      · rw [if_neg h1, if_neg (by omega)]
theorem part_row {w : World} {B g N R o len : Nat} (h : OwnI w B (.slice (some ⟨g, 0, none⟩) N N) (listF N (digF R))) (ho : o + len ≤ N) : RowOf iV w (.slice (some ⟨g, o, none⟩) len (N - o)) (listF len (digF (R / pw o % pw len))) := by
  refine ⟨some ⟨g, o, none⟩, N - o, by rw [listF_length], by rw [listF_length]; omega, Nat.le_trans (Nat.sub_le _ _) h.cap_le.2, fun i hi => ⟨g, o, rfl, ?_⟩⟩
  rw [listF_length] at hi
  rw [h.cell (o + i) (by rw [listF_length]; omega), listF_get, listF_get]
  unfold digF iV
  rw [dig_part R o len i hi]
theorem rd_own {w : World} {B g n c : Nat} {l : List Int} (h : OwnI w B (.slice (some ⟨g, 0, none⟩) n c) l) : Rd (fun _ _ => True) (some ⟨g, 0, none⟩) n w := fun i hi =>
  ⟨g, 0, _, rfl, trivial, by rw [Nat.zero_add]; exact h.cell i (by rw [h.len]; exact hi)⟩

/-- 'copy(dst, src)' of a shorter row into zeros of the call's own -/
theorem fill_lim {N U : Nat} (hU : nlen U ≤ N) : (limI U) ++ (listF N (fun _ => 0)).drop (nlen U) = listF N (digF U) := by
  apply List.ext_getElem
  · simp [limI_length, listF_length]; omega
  · intro i h1 h2
    rw [listF_length] at h2
    rw [listF_get]
    by_cases h : i < nlen U
    · rw [List.getElem_append_left (by rw [limI_length]; exact h), limI_get]; rfl
    · rw [List.getElem_append_right (by rw [limI_length]; omega), List.getElem_drop, listF_get]
      unfold digF; rw [dig_past (by omega)]; rfl

theorem nlen_scale {x s m : Nat} (hx : nlen x = m) (hs : s ≤ 500000000) : nlen (x * s) ≤ m + 1 := by
  rw [nlen_le_iff, pw_succ, ← hx]
  have h1 := lt_pw_nlen x
  have h2 : x * s ≤ x * 500000000 := Nat.mul_le_mul_left _ hs
  have h3 := pw_pos (nlen x)
  omega
theorem ownI_heap {w : World} {B g n : Nat} {l : List Int} (h : OwnI w B (.slice (some ⟨g, 0, none⟩) n n) l) : w.heap[g]? = some (.cells (l.map iV).toArray 3 (0, 0)) := by
  have hl := h.len
  rcases h.2 with ⟨hv, _⟩ | ⟨g', cap, cur, hv, _, hg, _, _, hc, ht⟩
  · cases hv
  · injection hv with e1 e2 e3
    injection e1 with e1
    injection e1 with e1 _ _
    subst e1 e3
    rw [hg]
    have : cur.toList = l.map iV := by
      rw [← ht, List.take_of_length_le]
      simp; omega
    rw [← this]
theorem heap_ownI {w : World} {B g n : Nat} {l : List Int} (h : w.heap[g]? = some (.cells (l.map iV).toArray 3 (0, 0))) (hB : B ≤ g) (hl : l.length = n) (hn : n ≤ maxLen) : OwnI w B (.slice (some ⟨g, 0, none⟩) n n) l := by
  refine ⟨by simp, .inr ⟨g, n, _, by rw [hl], hB, h, by omega, hn, by simp [hl], ?_⟩⟩
  apply List.take_of_length_le
  simp
theorem setRow_grown (w : World) (g : Nat) (cs : Array Value) : w.grownBy (w.setRow g cs) (some g) :=
  ⟨rfl, rfl, rfl, by simp [World.setRow], fun k _ hk => setRow_other w g k cs (fun e => hk (by rw [e]))⟩

/-- 'copy(rest, limbs)' into zeros of the call's own, as a step of a region that draws -/
theorem step_copy_lim {ops : Array Oper} {o : Oper} {a : Act} {w : World} {K : Act → World → Prop} {Q : Exit → Act → World → Prop} {E : Prop} (hgd : o.guard = none) (d s : Operand)
    (ho : o.op = .call { callee := .builtin .copy, args := #[d, s], argTypes := #[53, 53] }) (g N U B Bs : Nat) (v : Value) (hd : a.eval d = .slice (some ⟨g, 0, none⟩) N N) (hs : a.eval s = v)
    (hO : OwnI w B (.slice (some ⟨g, 0, none⟩) N N) (listF N (fun _ => 0))) (hS : OwnI w Bs v (limI U)) (hU0 : 0 < U) (hU : nlen U ≤ N) (hN : N ≤ 1000) (hB : B ≤ g)
    (h : ∀ w', OwnI w' B (.slice (some ⟨g, 0, none⟩) N N) (listF N (digF U)) → w.grownBy w' (some g) → K (a.put o.dst (goInt (nlen U))) w') :
    if Region.wanted o (yielded ops a.tmps) = true then Oper.wp Tryd.prog o a w K Q else E := by
  have hw : Region.wanted o (yielded ops a.tmps) = true := by simp [Region.wanted, hgd]
  rw [if_pos hw]
  obtain ⟨i0, hi, hz0, hz1, hz2⟩ := info_parts info_int
  have hlen : (limI U).length = nlen U := limI_length U
  obtain ⟨ga, c, rfl, _, _⟩ : ∃ ga c, v = .slice (some ⟨ga, 0, none⟩) (nlen U) c ∧ Bs ≤ ga ∧ ga < w.heap.size := by
    rcases hS.form with ⟨_, h0⟩ | ⟨ga, c, hv, h1, h2⟩
    · rw [h0] at hlen
      have := (nlen_pos_iff U).2 hU0
      simp at hlen; omega
    · exact ⟨ga, c, by rw [← hlen]; exact hv, h1, h2⟩
  have hrun := run_copy_row (P := Tryd.prog) w 53 53 o.type 3 g 0 N N ⟨ga, 0, none⟩ (nlen U) c ((listF N (fun _ => 0)).map iV).toArray 3 ((limI U).map iV) Tryd.underlying53 (by simp [hi, hz1]) (ownI_heap hO)
    (by rw [List.length_map, hlen]; exact (Nat.min_eq_left hU).symm)
    (fun j u hj => by
      obtain ⟨hj1, hj2⟩ := List.getElem?_eq_some_iff.1 hj
      rw [List.length_map] at hj1
      have := hS.cell j hj1
      rw [List.getElem_map] at hj2
      have e9 : (⟨ga, 0, none⟩ : Addr).add j = ⟨ga, j, none⟩ := by simp [Addr.add]; exact fun h => h.symm
      rw [e9, this, ← hj2]; rfl)
    (by simp [hlen, listF_length]; exact hU) (fun u hu => by
      obtain ⟨z, _, rfl⟩ := List.mem_map.1 hu
      rfl)
  have e : ((((listF N (fun _ => 0)).map iV).toArray.toList.take 0 ++ (limI U).map iV ++ ((listF N (fun _ => 0)).map iV).toArray.toList.drop (0 + ((limI U).map iV).length)).toArray) = ((listF N (digF U)).map iV).toArray := by
    rw [← fill_lim hU]
    simp [hlen]
  rw [e] at hrun
  unfold Oper.wp
  simp [execOp, ho, resolve, invoke, builtin, hd, hs, hrun, Result.andThen]
  have hg := h (w.setRow g ((listF N (digF U)).map iV).toArray) (heap_ownI (setRow_heap w g _ _ _ _ (ownI_heap hO)) hB (listF_length _ _) (by unfold maxLen; omega)) (setRow_grown _ _ _)
  have e8 : ((limI U).map iV).length = nlen U := by rw [List.length_map, hlen]
  simp only [hlen]
  exact hg

theorem impl_timesL (va vb : Value) (x y L : Nat) (w : World) (ha : RowOf iV w va (limI x)) (hb : RowOf iV w vb (limI y)) (hx : nlen x ≤ 1000) (hy : nlen y ≤ 1000) (h0 : 0 < x * y) (hL : nlen (x * y) = L) :
    Calls Tryd.prog 46 #[va, vb] w fun e w' => ∃ d c, e = .returned (.slice (some ⟨d, 0, none⟩) L c) ∧ w.heap.size ≤ d ∧ d < w'.heap.size ∧ OwnI w' w.heap.size (.slice (some ⟨d, 0, none⟩) L c) (limI (x * y)) ∧ Below w.heap.size w w' := by
  refine (impl_times va vb x y w ha hb hx hy).mono ?_
  rintro e w' ⟨v, rfl, ho, hB⟩
  rcases ho.form with ⟨_, hl⟩ | ⟨d, c, hv, h1, h2⟩
  · have e := congrArg List.length hl
    rw [limI_length] at e
    have := (nlen_pos_iff (x * y)).2 h0
    simp at e; omega
  · rw [limI_length, hL] at hv
    subst hv
    exact ⟨d, c, rfl, h1, h2, ho, hB⟩
theorem OwnI.apart {w w' : World} {B g n c g' : Nat} {l : List Int} (h : OwnI w B (.slice (some ⟨g, 0, none⟩) n c) l) (hg : w.grownBy w' (some g')) (hne : g ≠ g') : OwnI w' B (.slice (some ⟨g, 0, none⟩) n c) l :=
  h.other hg (fun a b e1 e2 => by
    have e1 : g = a := by simpa [Value.ownBlock] using e1
    have e2 : g' = b := by simpa using e2
    subst e1 e2; exact hne)
theorem boxed_apart {W W' : World} {B g : Nat} {t : TypeId} {v : Value} (h : Boxed W B t v) (hg : W.grownBy W' (some g)) (hne : B ≠ g) : Boxed W' B t v := h.kept hg (fun e => hne (by injection e))
theorem boxed_below {W W' : World} {B : Nat} {t : TypeId} {v : Value} (h : Boxed W B t v) (hb : Below W.heap.size W W') : Boxed W' B t v := h.kept (grownBy_of_below hb none) (by simp)
theorem below_grown1 {B : Nat} {a w w' : World} {g : Nat} (h : Below B a w) (hg : w.grownBy w' (some g)) (hB : B ≤ g) (hS : B ≤ w.heap.size) : Below B a w' := h.grown hg hS (fun k e => by injection e with e; omega)

end Go.Proofs.YtofmpfcbdemcnaaDoor
