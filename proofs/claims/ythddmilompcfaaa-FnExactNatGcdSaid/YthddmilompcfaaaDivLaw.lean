/- The exact law of NatDiv. -/
import Derived.Test.YthddmilompcfaaaDiv
namespace Go.Proofs.Ythddmilompcfaaa
open Go.RowKit

def natDivQ (zs0 zs1 : List Int) : List Int := if okB zs0 && okB zs1 then limI (natI zs0 / natI zs1) else []
def natDivR (zs0 zs1 : List Int) : List Int := if okB zs0 && okB zs1 then (if natI zs1 = 0 then [] else limI (natI zs0 % natI zs1)) else []
theorem natDiv_yes {x y : Nat} (hx : x < pw 60) (hy : y < pw 60) : natDivQ (limI x) (limI y) = limI (x / y) ∧ natDivR (limI x) (limI y) = if y = 0 then [] else limI (x % y) := by
  unfold natDivQ natDivR; rw [okB_limI hx, okB_limI hy, natI_limI, natI_limI]; exact ⟨rfl, rfl⟩
theorem natDiv_no {zs0 zs1 : List Int} (h : okB zs0 = false ∨ okB zs1 = false) : natDivQ zs0 zs1 = [] ∧ natDivR zs0 zs1 = [] := by
  unfold natDivQ natDivR; rcases h with h | h <;> rw [h] <;> simp
theorem natDivQ_len (zs0 zs1 : List Int) : (natDivQ zs0 zs1).length ≤ 1000 := by
  unfold natDivQ
  split
  · rename_i h
    simp only [Bool.and_eq_true] at h
    obtain ⟨x, rfl, hx⟩ := okB_cases h.1
    rw [natI_limI, limI_length]
    have h1 := nlen_mono (Nat.div_le_self x (natI zs1))
    have h2 := (nlen_le_iff 60 x).2 hx
    omega
  · simp
theorem natDivR_len (zs0 zs1 : List Int) : (natDivR zs0 zs1).length ≤ 1000 := by
  unfold natDivR
  split
  · rename_i h
    simp only [Bool.and_eq_true] at h
    split
    · simp
    · obtain ⟨x, rfl, hx⟩ := okB_cases h.1
      rw [natI_limI, limI_length]
      have h1 := nlen_mono (Nat.mod_le x (natI zs1))
      have h2 := (nlen_le_iff 60 x).2 hx
      omega
  · simp

set_option maxHeartbeats 400000 in
theorem spec_natDiv (va : Value) (zs0 : List Int) (vb : Value) (zs1 : List Int) (w : World) (ha : RowOf iV w va zs0) (hb : RowOf iV w vb zs1) :
    Calls Try.prog 30 #[va, vb] w fun e w' => ∃ v0 v1, e = .returned (.tuple #[v0, v1]) ∧ OwnI w' w.heap.size v0 (natDivQ zs0 zs1) ∧ OwnI w' w.heap.size v1 (natDivR zs0 zs1) ∧ Apart v0 v1 ∧ Below w.heap.size w w' := by
  have K0 := Lib.hid (spec_natOk va zs0 w ha)
  have K1 := Lib.hid (spec_natOk vb zs1 w hb)
  cases e0 : okB zs0 with
  | false =>
    have HE := Lib.hid (natDiv_no (zs0 := zs0) (zs1 := zs1) (.inl e0))
    obtain ⟨aa, ca, rfl, h1, h2, h3⟩ := ha
    obtain ⟨ab, cb, rfl, h4, h5, h6⟩ := hb
    rw [e0] at K0
    clear e0 h1 h2 h3 h4 h5 h6
    go_enter Try.func30, Try.ntmps30
    go_wp2_with fail
    refine K0.out.mono ?_
    rintro e w1 ⟨rfl, rfl⟩
    go_wp2
    go_ret2
    exact ⟨_, _, rfl, by rw [HE.out.1]; exact OwnI.nil _ _, by rw [HE.out.2]; exact OwnI.nil _ _, Apart.nil _, Below.refl _ _⟩
  | true =>
    cases e1 : okB zs1 with
    | false =>
      have HE := Lib.hid (natDiv_no (zs0 := zs0) (zs1 := zs1) (.inr e1))
      obtain ⟨aa, ca, rfl, h1, h2, h3⟩ := ha
      obtain ⟨ab, cb, rfl, h4, h5, h6⟩ := hb
      rw [e0] at K0
      rw [e1] at K1
      clear e0 e1 h1 h2 h3 h4 h5 h6
      go_enter Try.func30, Try.ntmps30
      go_wp2_with fail
      refine K0.out.mono ?_
      rintro e w1 ⟨rfl, rfl⟩
      go_wp2_with fail
      refine K1.out.mono ?_
      rintro e w1 ⟨rfl, rfl⟩
      go_wp2
      go_ret2
      exact ⟨_, _, rfl, by rw [HE.out.1]; exact OwnI.nil _ _, by rw [HE.out.2]; exact OwnI.nil _ _, Apart.nil _, Below.refl _ _⟩
    | true =>
      obtain ⟨x, rfl, hx⟩ := okB_cases e0
      obtain ⟨y, rfl, hy⟩ := okB_cases e1
      have HE := Lib.hid (natDiv_yes (x := x) (y := y) hx hy)
      have H60x := Lib.hid ((nlen_le_iff _ _).2 hx)
      have H60y := Lib.hid ((nlen_le_iff _ _).2 hy)
      have hx1 : nlen x ≤ 1000 := by have := H60x.out; omega
      have hy1 : nlen y ≤ 1000 := by have := H60y.out; omega
      rw [e0] at K0
      rw [e1] at K1
      have RA := Lib.hid ha
      have RB := Lib.hid hb
      obtain ⟨aa, ca, rfl, h1, h2, h3⟩ := ha
      obtain ⟨ab, cb, rfl, h4, h5, h6⟩ := hb
      clear h1 h2 h3 h4 h5 h6 e0 e1 hx hy
      rw [limI_length] at RA K0 ⊢
      rw [limI_length] at RB K1
      try rw [limI_length]
      by_cases hy0 : y = 0
      · subst hy0
        rw [Nat.div_zero, if_pos rfl, limI_zero] at HE
        have H0 := Lib.hid nlen_zero
        rw [H0.out] at K1 RB ⊢
        go_enter Try.func30, Try.ntmps30
        go_wp2_with fail
        refine K0.out.mono ?_
        rintro e w1 ⟨rfl, rfl⟩
        go_wp2_with fail
        refine K1.out.mono ?_
        rintro e w1 ⟨rfl, rfl⟩
        go_wp2
        go_ret2
        exact ⟨_, _, rfl, by rw [limI_zero, HE.out.1]; exact OwnI.nil _ _, by rw [limI_zero, HE.out.2]; exact OwnI.nil _ _, Apart.nil _, Below.refl _ _⟩
      · rw [if_neg hy0] at HE
        have T := Lib.hid (fun (W' : World) (hW : Below w.heap.size w W') => spec_div _ _ x y W' (rowOf_below RA.out hW) (rowOf_below RB.out hW) (by omega) (by have := H60x.out; omega) (by have := H60y.out; omega))
        have hz := (nlen_pos_iff y).2 (by omega)
        have hz0 : ((nlen y : Int) == 0) = false := by simp; omega
        clear hy0
        go_enter Try.func30, Try.ntmps30
        go_wp2_with fail
        refine K0.out.mono ?_
        rintro e w1 ⟨rfl, rfl⟩
        go_wp2_with fail
        refine K1.out.mono ?_
        rintro e w1 ⟨rfl, rfl⟩
        go_wp2_with fail
        refine (T.out _ (Below.refl _ _)).mono ?_
        rintro e w2 ⟨v0, v1, rfl, o0, o1, ap, b⟩
        have O0 := Lib.hid o0
        have O1 := Lib.hid o1
        have AP := Lib.hid ap
        clear o0 o1 ap
        go_wp2
        go_ret2
        exact ⟨_, _, rfl, by rw [HE.out.1]; exact O0.out, by rw [HE.out.2]; exact O1.out, AP.out, b⟩

set_option maxHeartbeats 400000 in
theorem impl_natDiv (va : Value) (zs0 : List Int) (vb : Value) (zs1 : List Int) (w : World) (ha : RowOf iV w va zs0) (hb : RowOf iV w vb zs1) :
    Calls Try.prog 31 #[va, vb] w fun e w' => ∃ v0 v1, e = .returned (.tuple #[v0, v1]) ∧ OwnI w' w.heap.size v0 (natDivQ zs0 zs1) ∧ OwnI w' w.heap.size v1 (natDivR zs0 zs1) ∧ Apart v0 v1 ∧ Below w.heap.size w w' := by
  have K0 := Lib.hid (impl_natOk va zs0 w ha)
  have K1 := Lib.hid (impl_natOk vb zs1 w hb)
  cases e0 : okB zs0 with
  | false =>
    have HE := Lib.hid (natDiv_no (zs0 := zs0) (zs1 := zs1) (.inl e0))
    obtain ⟨aa, ca, rfl, h1, h2, h3⟩ := ha
    obtain ⟨ab, cb, rfl, h4, h5, h6⟩ := hb
    rw [e0] at K0
    clear e0 h1 h2 h3 h4 h5 h6
    go_enter Try.func31, Try.ntmps31
    go_wp2_with fail
    refine K0.out.mono ?_
    rintro e w1 ⟨rfl, rfl⟩
    go_wp2
    go_ret2
    exact ⟨_, _, rfl, by rw [HE.out.1]; exact OwnI.nil _ _, by rw [HE.out.2]; exact OwnI.nil _ _, Apart.nil _, Below.refl _ _⟩
  | true =>
    cases e1 : okB zs1 with
    | false =>
      have HE := Lib.hid (natDiv_no (zs0 := zs0) (zs1 := zs1) (.inr e1))
      obtain ⟨aa, ca, rfl, h1, h2, h3⟩ := ha
      obtain ⟨ab, cb, rfl, h4, h5, h6⟩ := hb
      rw [e0] at K0
      rw [e1] at K1
      clear e0 e1 h1 h2 h3 h4 h5 h6
      go_enter Try.func31, Try.ntmps31
      go_wp2_with fail
      refine K0.out.mono ?_
      rintro e w1 ⟨rfl, rfl⟩
      go_wp2_with fail
      refine K1.out.mono ?_
      rintro e w1 ⟨rfl, rfl⟩
      go_wp2
      go_ret2
      exact ⟨_, _, rfl, by rw [HE.out.1]; exact OwnI.nil _ _, by rw [HE.out.2]; exact OwnI.nil _ _, Apart.nil _, Below.refl _ _⟩
    | true =>
      obtain ⟨x, rfl, hx⟩ := okB_cases e0
      obtain ⟨y, rfl, hy⟩ := okB_cases e1
      have HE := Lib.hid (natDiv_yes (x := x) (y := y) hx hy)
      have H60x := Lib.hid ((nlen_le_iff _ _).2 hx)
      have H60y := Lib.hid ((nlen_le_iff _ _).2 hy)
      have hx1 : nlen x ≤ 1000 := by have := H60x.out; omega
      have hy1 : nlen y ≤ 1000 := by have := H60y.out; omega
      rw [e0] at K0
      rw [e1] at K1
      have RA := Lib.hid ha
      have RB := Lib.hid hb
      obtain ⟨aa, ca, rfl, h1, h2, h3⟩ := ha
      obtain ⟨ab, cb, rfl, h4, h5, h6⟩ := hb
      clear h1 h2 h3 h4 h5 h6 e0 e1 hx hy
      rw [limI_length] at RA K0 ⊢
      rw [limI_length] at RB K1
      try rw [limI_length]
      by_cases hy0 : y = 0
      · subst hy0
        rw [Nat.div_zero, if_pos rfl, limI_zero] at HE
        have H0 := Lib.hid nlen_zero
        rw [H0.out] at K1 RB ⊢
        go_enter Try.func31, Try.ntmps31
        go_wp2_with fail
        refine K0.out.mono ?_
        rintro e w1 ⟨rfl, rfl⟩
        go_wp2_with fail
        refine K1.out.mono ?_
        rintro e w1 ⟨rfl, rfl⟩
        go_wp2
        go_ret2
        exact ⟨_, _, rfl, by rw [limI_zero, HE.out.1]; exact OwnI.nil _ _, by rw [limI_zero, HE.out.2]; exact OwnI.nil _ _, Apart.nil _, Below.refl _ _⟩
      · rw [if_neg hy0] at HE
        have T := Lib.hid (fun (W' : World) (hW : Below w.heap.size w W') => impl_divide _ _ x y W' (rowOf_below RA.out hW) (rowOf_below RB.out hW) (by omega) (by have := H60x.out; omega) (by have := H60y.out; omega))
        have hz := (nlen_pos_iff y).2 (by omega)
        have hz0 : ((nlen y : Int) == 0) = false := by simp; omega
        clear hy0
        go_enter Try.func31, Try.ntmps31
        go_wp2_with fail
        refine K0.out.mono ?_
        rintro e w1 ⟨rfl, rfl⟩
        go_wp2_with fail
        refine K1.out.mono ?_
        rintro e w1 ⟨rfl, rfl⟩
        go_wp2_with fail
        refine (T.out _ (Below.refl _ _)).mono ?_
        rintro e w2 ⟨v0, v1, rfl, o0, o1, ap, b⟩
        have O0 := Lib.hid o0
        have O1 := Lib.hid o1
        have AP := Lib.hid ap
        clear o0 o1 ap
        go_wp2
        go_ret2
        exact ⟨_, _, rfl, by rw [HE.out.1]; exact O0.out, by rw [HE.out.2]; exact O1.out, AP.out, b⟩

set_option maxHeartbeats 2000000 in
theorem law_natDiv (W : World) (v0 : Value) (zs0 : List Int) (h0 : RowOf iV W v0 zs0) (_ : True) (v1 : Value) (zs1 : List Int) (h1 : RowOf iV W v1 zs1) (_ : True) :
    Calls Try.prog 10 #[v0, v1] W fun e w' => e = .returned (.bool true) ∧ Below W.heap.size W w' := by
  have R0 := Lib.hid h0
  obtain ⟨a0, c0, rfl, hc0, hm0, hr0⟩ := h0
  clear hr0
  unfold maxLen at hm0
  obtain ⟨m0, hm0'⟩ : ∃ n, zs0.length = n := ⟨_, rfl⟩
  rw [hm0'] at hc0 R0 ⊢
  have N0 := Lib.hid hm0'
  clear hm0'
  have R1 := Lib.hid h1
  obtain ⟨a1, c1, rfl, hc1, hm1, hr1⟩ := h1
  clear hr1
  unfold maxLen at hm1
  obtain ⟨m1, hm1'⟩ : ∃ n, zs1.length = n := ⟨_, rfl⟩
  rw [hm1'] at hc1 R1 ⊢
  have N1 := Lib.hid hm1'
  clear hm1'
  by_cases hl0 : m0 ≤ 1048576
  rotate_left
  · go_enter Try.func10, Try.ntmps10
    go_wp2
    go_ret
    exact ⟨rfl, Below.refl _ _⟩
  by_cases hl1 : m1 ≤ 1048576
  rotate_left
  · go_enter Try.func10, Try.ntmps10
    go_wp2
    go_ret
    exact ⟨rfl, Below.refl _ _⟩
  go_enter Try.func10, Try.ntmps10
  go_wp2_with fail
  refine (to_ints _ zs0 _ R0.out (by rw [N0.out]; omega)).mono ?_
  rintro e w1 ⟨v_t1, rfl, o_t1, b1⟩
  have z1 := Lib.hid b1.size
  have B := Lib.hid b1
  have O_t1 := Lib.hid o_t1
  have L_t1 := Lib.hid o_t1.lt
  clear o_t1
  clear b1
  go_wp2_with fail
  refine (to_ints _ zs1 _ (rowOf_below R1.out B.out) (by rw [N1.out]; omega)).mono ?_
  rintro e w2 ⟨v_t2, rfl, o_t2, b2⟩
  have z2 := Lib.hid b2.size
  replace O_t1 := Lib.hid (O_t1.out.below b2)
  replace B := Lib.hid (B.out.trans (b2.mono B.out.size))
  have O_t2 := Lib.hid o_t2
  have L_t2 := Lib.hid o_t2.lt
  clear o_t2
  clear b2
  go_wp2_with fail
  refine (spec_natDiv _ zs0 _ zs1 _  O_t1.out.row O_t2.out.row).mono ?_
  rintro e w3 ⟨v_w_0, v_w_1, rfl, o_w_0, o_w_1, ap_w_, b3⟩
  have z3 := Lib.hid b3.size
  replace O_t1 := Lib.hid (O_t1.out.below b3)
  replace O_t2 := Lib.hid (O_t2.out.below b3)
  replace B := Lib.hid (B.out.trans (b3.mono B.out.size))
  have O_w_0 := Lib.hid o_w_0
  have L_w_0 := Lib.hid o_w_0.lt
  clear o_w_0
  have O_w_1 := Lib.hid o_w_1
  have L_w_1 := Lib.hid o_w_1.lt
  clear o_w_1
  clear b3
  have AP_w_ := Lib.hid ap_w_
  clear ap_w_
  clear O_t1 L_t1
  clear O_t2 L_t2
  go_wp2_with fail
  refine (to_ints _ zs0 _ (rowOf_below R0.out B.out) (by rw [N0.out]; omega)).mono ?_
  rintro e w4 ⟨v_t3, rfl, o_t3, b4⟩
  have z4 := Lib.hid b4.size
  replace O_w_0 := Lib.hid (O_w_0.out.below b4)
  replace O_w_1 := Lib.hid (O_w_1.out.below b4)
  replace B := Lib.hid (B.out.trans (b4.mono B.out.size))
  have O_t3 := Lib.hid o_t3
  have L_t3 := Lib.hid o_t3.lt
  clear o_t3
  clear b4
  go_wp2_with fail
  refine (to_ints _ zs1 _ (rowOf_below R1.out B.out) (by rw [N1.out]; omega)).mono ?_
  rintro e w5 ⟨v_t4, rfl, o_t4, b5⟩
  have z5 := Lib.hid b5.size
  replace O_w_0 := Lib.hid (O_w_0.out.below b5)
  replace O_w_1 := Lib.hid (O_w_1.out.below b5)
  replace O_t3 := Lib.hid (O_t3.out.below b5)
  replace B := Lib.hid (B.out.trans (b5.mono B.out.size))
  have O_t4 := Lib.hid o_t4
  have L_t4 := Lib.hid o_t4.lt
  clear o_t4
  clear b5
  go_wp2_with fail
  refine (impl_natDiv _ zs0 _ zs1 _  O_t3.out.row O_t4.out.row).mono ?_
  rintro e w6 ⟨v_g_0, v_g_1, rfl, o_g_0, o_g_1, ap_g_, b6⟩
  have z6 := Lib.hid b6.size
  replace O_w_0 := Lib.hid (O_w_0.out.below b6)
  replace O_w_1 := Lib.hid (O_w_1.out.below b6)
  replace O_t3 := Lib.hid (O_t3.out.below b6)
  replace O_t4 := Lib.hid (O_t4.out.below b6)
  replace B := Lib.hid (B.out.trans (b6.mono B.out.size))
  have O_g_0 := Lib.hid o_g_0
  have L_g_0 := Lib.hid o_g_0.lt
  clear o_g_0
  have O_g_1 := Lib.hid o_g_1
  have L_g_1 := Lib.hid o_g_1.lt
  clear o_g_1
  clear b6
  have AP_g_ := Lib.hid ap_g_
  clear ap_g_
  go_wp2_with fail
  refine (eq_intsB _ _ _ _ O_g_0.out.row O_w_0.out.row).mono ?_
  rintro e w7 ⟨rfl, b7⟩
  have z7 := Lib.hid b7.size
  replace O_w_0 := Lib.hid (O_w_0.out.below b7)
  replace O_w_1 := Lib.hid (O_w_1.out.below b7)
  replace O_t3 := Lib.hid (O_t3.out.below b7)
  replace O_t4 := Lib.hid (O_t4.out.below b7)
  replace O_g_0 := Lib.hid (O_g_0.out.below b7)
  replace O_g_1 := Lib.hid (O_g_1.out.below b7)
  replace B := Lib.hid (B.out.trans (b7.mono B.out.size))
  clear b7
  go_wp2_with fail
  refine (eq_intsB _ _ _ _ O_g_1.out.row O_w_1.out.row).mono ?_
  rintro e w8 ⟨rfl, b8⟩
  have z8 := Lib.hid b8.size
  replace O_w_0 := Lib.hid (O_w_0.out.below b8)
  replace O_w_1 := Lib.hid (O_w_1.out.below b8)
  replace O_t3 := Lib.hid (O_t3.out.below b8)
  replace O_t4 := Lib.hid (O_t4.out.below b8)
  replace O_g_0 := Lib.hid (O_g_0.out.below b8)
  replace O_g_1 := Lib.hid (O_g_1.out.below b8)
  replace B := Lib.hid (B.out.trans (b8.mono B.out.size))
  clear b8
  go_wp2_with fail
  refine (to_ints _ zs0 _ (rowOf_below R0.out B.out) (by rw [N0.out]; omega)).mono ?_
  rintro e w9 ⟨v_t5, rfl, o_t5, b9⟩
  have z9 := Lib.hid b9.size
  replace O_w_0 := Lib.hid (O_w_0.out.below b9)
  replace O_w_1 := Lib.hid (O_w_1.out.below b9)
  replace O_t3 := Lib.hid (O_t3.out.below b9)
  replace O_t4 := Lib.hid (O_t4.out.below b9)
  replace O_g_0 := Lib.hid (O_g_0.out.below b9)
  replace O_g_1 := Lib.hid (O_g_1.out.below b9)
  replace B := Lib.hid (B.out.trans (b9.mono B.out.size))
  have O_t5 := Lib.hid o_t5
  have L_t5 := Lib.hid o_t5.lt
  clear o_t5
  clear b9
  go_wp2_with fail
  refine (eq_intsB _ _ _ _ O_t3.out.row O_t5.out.row).mono ?_
  rintro e w10 ⟨rfl, b10⟩
  have z10 := Lib.hid b10.size
  replace O_w_0 := Lib.hid (O_w_0.out.below b10)
  replace O_w_1 := Lib.hid (O_w_1.out.below b10)
  replace O_t3 := Lib.hid (O_t3.out.below b10)
  replace O_t4 := Lib.hid (O_t4.out.below b10)
  replace O_g_0 := Lib.hid (O_g_0.out.below b10)
  replace O_g_1 := Lib.hid (O_g_1.out.below b10)
  replace O_t5 := Lib.hid (O_t5.out.below b10)
  replace B := Lib.hid (B.out.trans (b10.mono B.out.size))
  clear b10
  clear O_t5 L_t5
  go_wp2_with fail
  refine (to_ints _ zs1 _ (rowOf_below R1.out B.out) (by rw [N1.out]; omega)).mono ?_
  rintro e w11 ⟨v_t6, rfl, o_t6, b11⟩
  have z11 := Lib.hid b11.size
  replace O_w_0 := Lib.hid (O_w_0.out.below b11)
  replace O_w_1 := Lib.hid (O_w_1.out.below b11)
  replace O_t3 := Lib.hid (O_t3.out.below b11)
  replace O_t4 := Lib.hid (O_t4.out.below b11)
  replace O_g_0 := Lib.hid (O_g_0.out.below b11)
  replace O_g_1 := Lib.hid (O_g_1.out.below b11)
  replace B := Lib.hid (B.out.trans (b11.mono B.out.size))
  have O_t6 := Lib.hid o_t6
  have L_t6 := Lib.hid o_t6.lt
  clear o_t6
  clear b11
  go_wp2_with fail
  refine (eq_intsB _ _ _ _ O_t4.out.row O_t6.out.row).mono ?_
  rintro e w12 ⟨rfl, b12⟩
  have z12 := Lib.hid b12.size
  replace O_w_0 := Lib.hid (O_w_0.out.below b12)
  replace O_w_1 := Lib.hid (O_w_1.out.below b12)
  replace O_t3 := Lib.hid (O_t3.out.below b12)
  replace O_t4 := Lib.hid (O_t4.out.below b12)
  replace O_g_0 := Lib.hid (O_g_0.out.below b12)
  replace O_g_1 := Lib.hid (O_g_1.out.below b12)
  replace O_t6 := Lib.hid (O_t6.out.below b12)
  replace B := Lib.hid (B.out.trans (b12.mono B.out.size))
  clear b12
  clear O_t6 L_t6
  go_wp2_with fail
  refine (mark_ints _ (1) _ _ _ _ (by simp) O_t3.out (by rw [N0.out]; omega)).mono ?_
  rintro e w13 ⟨rfl, o13, b13⟩
  have z13 := Lib.hid (grownBy_size b13)
  replace O_w_0 := Lib.hid (O_w_0.out.other b13 (fun g g' e1 e2 => by have := L_w_0.out g e1; have := L_t3.out g' e2; have := z1.out; have := z2.out; have := z3.out; have := z4.out; have := z5.out; have := z6.out; have := z7.out; have := z8.out; have := z9.out; have := z10.out; have := z11.out; have := z12.out; omega))
  replace O_w_1 := Lib.hid (O_w_1.out.other b13 (fun g g' e1 e2 => by have := L_w_1.out g e1; have := L_t3.out g' e2; have := z1.out; have := z2.out; have := z3.out; have := z4.out; have := z5.out; have := z6.out; have := z7.out; have := z8.out; have := z9.out; have := z10.out; have := z11.out; have := z12.out; omega))
  replace O_t3 := Lib.hid o13
  replace O_t4 := Lib.hid (O_t4.out.other b13 (fun g g' e1 e2 => by have := L_t4.out g e1; have := L_t3.out g' e2; have := z1.out; have := z2.out; have := z3.out; have := z4.out; have := z5.out; have := z6.out; have := z7.out; have := z8.out; have := z9.out; have := z10.out; have := z11.out; have := z12.out; omega))
  replace O_g_0 := Lib.hid (O_g_0.out.other b13 (fun g g' e1 e2 => by have := L_g_0.out g e1; have := L_t3.out g' e2; have := z1.out; have := z2.out; have := z3.out; have := z4.out; have := z5.out; have := z6.out; have := z7.out; have := z8.out; have := z9.out; have := z10.out; have := z11.out; have := z12.out; omega))
  replace O_g_1 := Lib.hid (O_g_1.out.other b13 (fun g g' e1 e2 => by have := L_g_1.out g e1; have := L_t3.out g' e2; have := z1.out; have := z2.out; have := z3.out; have := z4.out; have := z5.out; have := z6.out; have := z7.out; have := z8.out; have := z9.out; have := z10.out; have := z11.out; have := z12.out; omega))
  replace B := Lib.hid (Below.grown B.out b13 B.out.size (fun g hg => by have := L_t3.out g hg; have := z1.out; have := z2.out; have := z3.out; have := z4.out; have := z5.out; have := z6.out; have := z7.out; have := z8.out; have := z9.out; have := z10.out; have := z11.out; have := z12.out; have := B.out.size; omega))
  clear o13
  clear b13
  rw [N0.out]
  go_wp2_with fail
  refine (mark_ints _ (1 + m0) _ _ _ _ (by simp) O_t4.out (by rw [N1.out]; omega)).mono ?_
  rintro e w14 ⟨rfl, o14, b14⟩
  have z14 := Lib.hid (grownBy_size b14)
  replace O_w_0 := Lib.hid (O_w_0.out.other b14 (fun g g' e1 e2 => by have := L_w_0.out g e1; have := L_t4.out g' e2; have := z1.out; have := z2.out; have := z3.out; have := z4.out; have := z5.out; have := z6.out; have := z7.out; have := z8.out; have := z9.out; have := z10.out; have := z11.out; have := z12.out; have := z13.out; omega))
  replace O_w_1 := Lib.hid (O_w_1.out.other b14 (fun g g' e1 e2 => by have := L_w_1.out g e1; have := L_t4.out g' e2; have := z1.out; have := z2.out; have := z3.out; have := z4.out; have := z5.out; have := z6.out; have := z7.out; have := z8.out; have := z9.out; have := z10.out; have := z11.out; have := z12.out; have := z13.out; omega))
  replace O_t3 := Lib.hid (O_t3.out.other b14 (fun g g' e1 e2 => by have := L_t3.out g e1; have := L_t4.out g' e2; have := z1.out; have := z2.out; have := z3.out; have := z4.out; have := z5.out; have := z6.out; have := z7.out; have := z8.out; have := z9.out; have := z10.out; have := z11.out; have := z12.out; have := z13.out; omega))
  replace O_t4 := Lib.hid o14
  replace O_g_0 := Lib.hid (O_g_0.out.other b14 (fun g g' e1 e2 => by have := L_g_0.out g e1; have := L_t4.out g' e2; have := z1.out; have := z2.out; have := z3.out; have := z4.out; have := z5.out; have := z6.out; have := z7.out; have := z8.out; have := z9.out; have := z10.out; have := z11.out; have := z12.out; have := z13.out; omega))
  replace O_g_1 := Lib.hid (O_g_1.out.other b14 (fun g g' e1 e2 => by have := L_g_1.out g e1; have := L_t4.out g' e2; have := z1.out; have := z2.out; have := z3.out; have := z4.out; have := z5.out; have := z6.out; have := z7.out; have := z8.out; have := z9.out; have := z10.out; have := z11.out; have := z12.out; have := z13.out; omega))
  replace B := Lib.hid (Below.grown B.out b14 B.out.size (fun g hg => by have := L_t4.out g hg; have := z1.out; have := z2.out; have := z3.out; have := z4.out; have := z5.out; have := z6.out; have := z7.out; have := z8.out; have := z9.out; have := z10.out; have := z11.out; have := z12.out; have := z13.out; have := B.out.size; omega))
  clear o14
  clear b14
  rw [N1.out]
  clear O_t3 L_t3
  clear O_t4 L_t4
  go_wp2_with fail
  refine (eq_intsB _ _ _ _ O_g_0.out.row O_w_0.out.row).mono ?_
  rintro e w15 ⟨rfl, b15⟩
  have z15 := Lib.hid b15.size
  replace O_w_0 := Lib.hid (O_w_0.out.below b15)
  replace O_w_1 := Lib.hid (O_w_1.out.below b15)
  replace O_g_0 := Lib.hid (O_g_0.out.below b15)
  replace O_g_1 := Lib.hid (O_g_1.out.below b15)
  replace B := Lib.hid (B.out.trans (b15.mono B.out.size))
  clear b15
  go_wp2_with fail
  refine (eq_intsB _ _ _ _ O_g_1.out.row O_w_1.out.row).mono ?_
  rintro e w16 ⟨rfl, b16⟩
  have z16 := Lib.hid b16.size
  replace O_w_0 := Lib.hid (O_w_0.out.below b16)
  replace O_w_1 := Lib.hid (O_w_1.out.below b16)
  replace O_g_0 := Lib.hid (O_g_0.out.below b16)
  replace O_g_1 := Lib.hid (O_g_1.out.below b16)
  replace B := Lib.hid (B.out.trans (b16.mono B.out.size))
  clear b16
  have hl_0 := Lib.hid (natDivQ_len zs0 zs1)
  have hl_1 := Lib.hid (natDivR_len zs0 zs1)
  obtain ⟨q0, hq0⟩ : ∃ n, (natDivQ zs0 zs1).length = n := ⟨_, rfl⟩
  have Q0 := Lib.hid hq0
  rw [hq0] at hl_0
  clear hq0
  obtain ⟨q1, hq1⟩ : ∃ n, (natDivR zs0 zs1).length = n := ⟨_, rfl⟩
  have Q1 := Lib.hid hq1
  rw [hq1] at hl_1
  clear hq1
  go_wp2_with fail
  refine (mark_ints _ (1) _ _ _ _ (by simp) O_g_0.out (by rw [Q0.out]; have := hl_0.out; omega)).mono ?_
  rintro e w17 ⟨rfl, o17, b17⟩
  have z17 := Lib.hid (grownBy_size b17)
  replace O_w_0 := Lib.hid (O_w_0.out.other b17 (fun g g' e1 e2 => by have := L_w_0.out g e1; have := L_g_0.out g' e2; have := z1.out; have := z2.out; have := z3.out; have := z4.out; have := z5.out; have := z6.out; have := z7.out; have := z8.out; have := z9.out; have := z10.out; have := z11.out; have := z12.out; have := z13.out; have := z14.out; have := z15.out; have := z16.out; omega))
  replace O_w_1 := Lib.hid (O_w_1.out.other b17 (fun g g' e1 e2 => by have := L_w_1.out g e1; have := L_g_0.out g' e2; have := z1.out; have := z2.out; have := z3.out; have := z4.out; have := z5.out; have := z6.out; have := z7.out; have := z8.out; have := z9.out; have := z10.out; have := z11.out; have := z12.out; have := z13.out; have := z14.out; have := z15.out; have := z16.out; omega))
  replace O_g_0 := Lib.hid o17
  replace O_g_1 := Lib.hid (O_g_1.out.other b17 (fun g g' e1 e2 => (AP_g_.out g' g e2 e1).symm))
  replace B := Lib.hid (Below.grown B.out b17 B.out.size (fun g hg => by have := L_g_0.out g hg; have := z1.out; have := z2.out; have := z3.out; have := z4.out; have := z5.out; have := z6.out; have := z7.out; have := z8.out; have := z9.out; have := z10.out; have := z11.out; have := z12.out; have := z13.out; have := z14.out; have := z15.out; have := z16.out; have := B.out.size; omega))
  clear o17
  clear b17
  rw [Q0.out] at O_g_0 ⊢
  go_wp2_with fail
  refine (mark_ints _ (1 + q0) _ _ _ _ (by simp) O_g_1.out (by rw [Q1.out]; have := hl_0.out; have := hl_1.out; omega)).mono ?_
  rintro e w18 ⟨rfl, o18, b18⟩
  have z18 := Lib.hid (grownBy_size b18)
  replace O_w_0 := Lib.hid (O_w_0.out.other b18 (fun g g' e1 e2 => by have := L_w_0.out g e1; have := L_g_1.out g' e2; have := z1.out; have := z2.out; have := z3.out; have := z4.out; have := z5.out; have := z6.out; have := z7.out; have := z8.out; have := z9.out; have := z10.out; have := z11.out; have := z12.out; have := z13.out; have := z14.out; have := z15.out; have := z16.out; have := z17.out; omega))
  replace O_w_1 := Lib.hid (O_w_1.out.other b18 (fun g g' e1 e2 => by have := L_w_1.out g e1; have := L_g_1.out g' e2; have := z1.out; have := z2.out; have := z3.out; have := z4.out; have := z5.out; have := z6.out; have := z7.out; have := z8.out; have := z9.out; have := z10.out; have := z11.out; have := z12.out; have := z13.out; have := z14.out; have := z15.out; have := z16.out; have := z17.out; omega))
  replace O_g_0 := Lib.hid (O_g_0.out.other b18 (fun g g' e1 e2 => AP_g_.out g g' e1 e2))
  replace O_g_1 := Lib.hid o18
  replace B := Lib.hid (Below.grown B.out b18 B.out.size (fun g hg => by have := L_g_1.out g hg; have := z1.out; have := z2.out; have := z3.out; have := z4.out; have := z5.out; have := z6.out; have := z7.out; have := z8.out; have := z9.out; have := z10.out; have := z11.out; have := z12.out; have := z13.out; have := z14.out; have := z15.out; have := z16.out; have := z17.out; have := B.out.size; omega))
  clear o18
  clear b18
  rw [Q1.out] at O_g_1 ⊢
  go_wp2_with fail
  refine (held_intsB _ q0 (1) _ _ (by simp) O_g_0.out.row (by have := hl_0.out; omega)).mono ?_
  rintro e w19 ⟨rfl, b19⟩
  have z19 := Lib.hid b19.size
  replace O_w_0 := Lib.hid (O_w_0.out.below b19)
  replace O_w_1 := Lib.hid (O_w_1.out.below b19)
  replace O_g_0 := Lib.hid (O_g_0.out.below b19)
  replace O_g_1 := Lib.hid (O_g_1.out.below b19)
  replace B := Lib.hid (B.out.trans (b19.mono B.out.size))
  clear b19
  go_wp2_with fail
  refine (held_intsB _ q1 (1 + q0) _ _ (by simp) O_g_1.out.row (by have := hl_0.out; have := hl_1.out; omega)).mono ?_
  rintro e w20 ⟨rfl, b20⟩
  have z20 := Lib.hid b20.size
  replace O_w_0 := Lib.hid (O_w_0.out.below b20)
  replace O_w_1 := Lib.hid (O_w_1.out.below b20)
  replace O_g_0 := Lib.hid (O_g_0.out.below b20)
  replace O_g_1 := Lib.hid (O_g_1.out.below b20)
  replace B := Lib.hid (B.out.trans (b20.mono B.out.size))
  clear b20
  go_wp2_with fail
  refine (to_ints _ zs0 _ (rowOf_below R0.out B.out) (by rw [N0.out]; omega)).mono ?_
  rintro e w21 ⟨v_t7, rfl, o_t7, b21⟩
  have z21 := Lib.hid b21.size
  replace O_w_0 := Lib.hid (O_w_0.out.below b21)
  replace O_w_1 := Lib.hid (O_w_1.out.below b21)
  replace O_g_0 := Lib.hid (O_g_0.out.below b21)
  replace O_g_1 := Lib.hid (O_g_1.out.below b21)
  replace B := Lib.hid (B.out.trans (b21.mono B.out.size))
  have O_t7 := Lib.hid o_t7
  have L_t7 := Lib.hid o_t7.lt
  clear o_t7
  clear b21
  go_wp2_with fail
  refine (to_ints _ zs1 _ (rowOf_below R1.out B.out) (by rw [N1.out]; omega)).mono ?_
  rintro e w22 ⟨v_t8, rfl, o_t8, b22⟩
  have z22 := Lib.hid b22.size
  replace O_w_0 := Lib.hid (O_w_0.out.below b22)
  replace O_w_1 := Lib.hid (O_w_1.out.below b22)
  replace O_g_0 := Lib.hid (O_g_0.out.below b22)
  replace O_g_1 := Lib.hid (O_g_1.out.below b22)
  replace O_t7 := Lib.hid (O_t7.out.below b22)
  replace B := Lib.hid (B.out.trans (b22.mono B.out.size))
  have O_t8 := Lib.hid o_t8
  have L_t8 := Lib.hid o_t8.lt
  clear o_t8
  clear b22
  go_wp2_with fail
  refine (impl_natDiv _ zs0 _ zs1 _  O_t7.out.row O_t8.out.row).mono ?_
  rintro e w23 ⟨v_h_0, v_h_1, rfl, o_h_0, o_h_1, ap_h_, b23⟩
  have z23 := Lib.hid b23.size
  replace O_w_0 := Lib.hid (O_w_0.out.below b23)
  replace O_w_1 := Lib.hid (O_w_1.out.below b23)
  replace O_g_0 := Lib.hid (O_g_0.out.below b23)
  replace O_g_1 := Lib.hid (O_g_1.out.below b23)
  replace O_t7 := Lib.hid (O_t7.out.below b23)
  replace O_t8 := Lib.hid (O_t8.out.below b23)
  replace B := Lib.hid (B.out.trans (b23.mono B.out.size))
  have O_h_0 := Lib.hid o_h_0
  have L_h_0 := Lib.hid o_h_0.lt
  clear o_h_0
  have O_h_1 := Lib.hid o_h_1
  have L_h_1 := Lib.hid o_h_1.lt
  clear o_h_1
  clear b23
  have AP_h_ := Lib.hid ap_h_
  clear ap_h_
  clear O_t7 L_t7
  clear O_t8 L_t8
  go_wp2_with fail
  refine (eq_intsB _ _ _ _ O_h_0.out.row O_w_0.out.row).mono ?_
  rintro e w24 ⟨rfl, b24⟩
  have z24 := Lib.hid b24.size
  replace O_w_0 := Lib.hid (O_w_0.out.below b24)
  replace O_w_1 := Lib.hid (O_w_1.out.below b24)
  replace O_g_0 := Lib.hid (O_g_0.out.below b24)
  replace O_g_1 := Lib.hid (O_g_1.out.below b24)
  replace O_h_0 := Lib.hid (O_h_0.out.below b24)
  replace O_h_1 := Lib.hid (O_h_1.out.below b24)
  replace B := Lib.hid (B.out.trans (b24.mono B.out.size))
  clear b24
  go_wp2_with fail
  refine (eq_intsB _ _ _ _ O_h_1.out.row O_w_1.out.row).mono ?_
  rintro e w25 ⟨rfl, b25⟩
  have z25 := Lib.hid b25.size
  replace O_w_0 := Lib.hid (O_w_0.out.below b25)
  replace O_w_1 := Lib.hid (O_w_1.out.below b25)
  replace O_g_0 := Lib.hid (O_g_0.out.below b25)
  replace O_g_1 := Lib.hid (O_g_1.out.below b25)
  replace O_h_0 := Lib.hid (O_h_0.out.below b25)
  replace O_h_1 := Lib.hid (O_h_1.out.below b25)
  replace B := Lib.hid (B.out.trans (b25.mono B.out.size))
  clear b25
  go_wp2_with fail
  refine (held_intsB _ q0 (1) _ _ (by simp) O_g_0.out.row (by have := hl_0.out; omega)).mono ?_
  rintro e w26 ⟨rfl, b26⟩
  have z26 := Lib.hid b26.size
  replace O_w_0 := Lib.hid (O_w_0.out.below b26)
  replace O_w_1 := Lib.hid (O_w_1.out.below b26)
  replace O_g_0 := Lib.hid (O_g_0.out.below b26)
  replace O_g_1 := Lib.hid (O_g_1.out.below b26)
  replace O_h_0 := Lib.hid (O_h_0.out.below b26)
  replace O_h_1 := Lib.hid (O_h_1.out.below b26)
  replace B := Lib.hid (B.out.trans (b26.mono B.out.size))
  clear b26
  go_wp2_with fail
  refine (held_intsB _ q1 (1 + q0) _ _ (by simp) O_g_1.out.row (by have := hl_0.out; have := hl_1.out; omega)).mono ?_
  rintro e w27 ⟨rfl, b27⟩
  have z27 := Lib.hid b27.size
  replace O_w_0 := Lib.hid (O_w_0.out.below b27)
  replace O_w_1 := Lib.hid (O_w_1.out.below b27)
  replace O_g_0 := Lib.hid (O_g_0.out.below b27)
  replace O_g_1 := Lib.hid (O_g_1.out.below b27)
  replace O_h_0 := Lib.hid (O_h_0.out.below b27)
  replace O_h_1 := Lib.hid (O_h_1.out.below b27)
  replace B := Lib.hid (B.out.trans (b27.mono B.out.size))
  clear b27
  go_wp2
  go_ret
  exact ⟨rfl, B.out⟩


end Go.Proofs.Ythddmilompcfaaa
