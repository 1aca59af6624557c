/- BigIntNeg, BigIntAdd, BigIntSub, BigIntMul of the program and of the model. -/
import Derived.Test.YtofmpfcbdemcnaaBigAdd
import Derived.Test.YtofmpfcbdemcnaaMulLaw
namespace Go.Proofs.Ytofmpfcbdemcnaa
open Go.RowKit

def bigNegL (b0 : Bool) (zs0 : List Int) : List Int := if bigOk b0 zs0 then capL ((natI zs0)) else []
def bigNegB (b0 : Bool) (zs0 : List Int) : Bool := if bigOk b0 zs0 then sgB (!b0) (capL ((natI zs0))) else false
theorem bigNegL_len (b0 : Bool) (zs0 : List Int) : (bigNegL b0 zs0).length ≤ 1000 := by
  unfold bigNegL
  split
  · have := capL_len ((natI zs0)); omega
  · simp
theorem bigNeg_yes {b0 : Bool} {x : Nat} (h0 : bigOk b0 (limI x) = true) : bigNegB b0 (limI x) = sgB (!b0) (capL (x)) ∧ bigNegL b0 (limI x) = capL (x) := by
  unfold bigNegB bigNegL; rw [h0, natI_limI]; exact ⟨rfl, rfl⟩
theorem bigNeg_no {b0 : Bool} {zs0 : List Int} (h : bigOk b0 zs0 = false) : bigNegB b0 zs0 = false ∧ bigNegL b0 zs0 = [] := by
  unfold bigNegB bigNegL; rw [h]; simp

def bigAddL (b0 : Bool) (zs0 : List Int) (b1 : Bool) (zs1 : List Int) : List Int := if bigOk b0 zs0 && bigOk b1 zs1 then capL (sgAddN b0 (natI zs0) b1 (natI zs1)) else []
def bigAddB (b0 : Bool) (zs0 : List Int) (b1 : Bool) (zs1 : List Int) : Bool := if bigOk b0 zs0 && bigOk b1 zs1 then sgB (sgAddB b0 (natI zs0) b1 (natI zs1)) (capL (sgAddN b0 (natI zs0) b1 (natI zs1))) else false
theorem bigAddL_len (b0 : Bool) (zs0 : List Int) (b1 : Bool) (zs1 : List Int) : (bigAddL b0 zs0 b1 zs1).length ≤ 1000 := by
  unfold bigAddL
  split
  · have := capL_len (sgAddN b0 (natI zs0) b1 (natI zs1)); omega
  · simp
theorem bigAdd_yes {b0 b1 : Bool} {x y : Nat} (h0 : bigOk b0 (limI x) = true) (h1 : bigOk b1 (limI y) = true) : bigAddB b0 (limI x) b1 (limI y) = sgB (sgAddB b0 x b1 y) (capL (sgAddN b0 x b1 y)) ∧ bigAddL b0 (limI x) b1 (limI y) = capL (sgAddN b0 x b1 y) := by
  unfold bigAddB bigAddL; rw [h0, h1, natI_limI, natI_limI]; exact ⟨rfl, rfl⟩
theorem bigAdd_no {b0 b1 : Bool} {zs0 zs1 : List Int} (h : bigOk b0 zs0 = false ∨ bigOk b1 zs1 = false) : bigAddB b0 zs0 b1 zs1 = false ∧ bigAddL b0 zs0 b1 zs1 = [] := by
  unfold bigAddB bigAddL; rcases h with h | h <;> rw [h] <;> simp

def bigSubL (b0 : Bool) (zs0 : List Int) (b1 : Bool) (zs1 : List Int) : List Int := if bigOk b0 zs0 && bigOk b1 zs1 then capL (sgAddN b0 (natI zs0) (!b1) (natI zs1)) else []
def bigSubB (b0 : Bool) (zs0 : List Int) (b1 : Bool) (zs1 : List Int) : Bool := if bigOk b0 zs0 && bigOk b1 zs1 then sgB (sgAddB b0 (natI zs0) (!b1) (natI zs1)) (capL (sgAddN b0 (natI zs0) (!b1) (natI zs1))) else false
theorem bigSubL_len (b0 : Bool) (zs0 : List Int) (b1 : Bool) (zs1 : List Int) : (bigSubL b0 zs0 b1 zs1).length ≤ 1000 := by
  unfold bigSubL
  split
  · have := capL_len (sgAddN b0 (natI zs0) (!b1) (natI zs1)); omega
  · simp
theorem bigSub_yes {b0 b1 : Bool} {x y : Nat} (h0 : bigOk b0 (limI x) = true) (h1 : bigOk b1 (limI y) = true) : bigSubB b0 (limI x) b1 (limI y) = sgB (sgAddB b0 x (!b1) y) (capL (sgAddN b0 x (!b1) y)) ∧ bigSubL b0 (limI x) b1 (limI y) = capL (sgAddN b0 x (!b1) y) := by
  unfold bigSubB bigSubL; rw [h0, h1, natI_limI, natI_limI]; exact ⟨rfl, rfl⟩
theorem bigSub_no {b0 b1 : Bool} {zs0 zs1 : List Int} (h : bigOk b0 zs0 = false ∨ bigOk b1 zs1 = false) : bigSubB b0 zs0 b1 zs1 = false ∧ bigSubL b0 zs0 b1 zs1 = [] := by
  unfold bigSubB bigSubL; rcases h with h | h <;> rw [h] <;> simp

def bigMulL (b0 : Bool) (zs0 : List Int) (b1 : Bool) (zs1 : List Int) : List Int := if bigOk b0 zs0 && bigOk b1 zs1 then capL ((natI zs0) * (natI zs1)) else []
def bigMulB (b0 : Bool) (zs0 : List Int) (b1 : Bool) (zs1 : List Int) : Bool := if bigOk b0 zs0 && bigOk b1 zs1 then sgB (!(b0 == b1)) (capL ((natI zs0) * (natI zs1))) else false
theorem bigMulL_len (b0 : Bool) (zs0 : List Int) (b1 : Bool) (zs1 : List Int) : (bigMulL b0 zs0 b1 zs1).length ≤ 1000 := by
  unfold bigMulL
  split
  · have := capL_len ((natI zs0) * (natI zs1)); omega
  · simp
theorem bigMul_yes {b0 b1 : Bool} {x y : Nat} (h0 : bigOk b0 (limI x) = true) (h1 : bigOk b1 (limI y) = true) : bigMulB b0 (limI x) b1 (limI y) = sgB (!(b0 == b1)) (capL (x * y)) ∧ bigMulL b0 (limI x) b1 (limI y) = capL (x * y) := by
  unfold bigMulB bigMulL; rw [h0, h1, natI_limI, natI_limI]; exact ⟨rfl, rfl⟩
theorem bigMul_no {b0 b1 : Bool} {zs0 zs1 : List Int} (h : bigOk b0 zs0 = false ∨ bigOk b1 zs1 = false) : bigMulB b0 zs0 b1 zs1 = false ∧ bigMulL b0 zs0 b1 zs1 = [] := by
  unfold bigMulB bigMulL; rcases h with h | h <;> rw [h] <;> simp

theorem row_cast {w : World} {v : Value} {l l' : List Int} (h : RowOf iV w v l) (e : l = l') : RowOf iV w v l' := by rw [← e]; exact h
theorem sgSub_eq {b0 b1 : Bool} {x y : Nat} (h : bigOk b1 (limI y) = true) : sgAddB b0 x (bigNegB b1 (limI y)) y = sgAddB b0 x (!b1) y ∧ sgAddN b0 x (bigNegB b1 (limI y)) y = sgAddN b0 x (!b1) y := by
  have e : capL y = limI y := capL_yes (by
    obtain ⟨z, h1, h2⟩ := okB_cases (bigOk_ok h)
    have h3 := congrArg natI h1
    rw [natI_limI, natI_limI] at h3
    rw [h3]; exact h2)
  rw [(bigNeg_yes h).1, e]
  rcases Nat.eq_zero_or_pos y with h0 | h0
  · subst h0
    rw [limI_zero, sgB_nil]
    unfold sgAddB sgAddN
    cases b0 <;> cases b1 <;> simp
  · rw [sgB_pos (by rw [limI_length]; exact (nlen_pos_iff y).2 h0)]
    exact ⟨rfl, rfl⟩
theorem bigNegL_eq {b1 : Bool} {y : Nat} (h : bigOk b1 (limI y) = true) : bigNegL b1 (limI y) = limI y := by
  rw [(bigNeg_yes h).2]
  obtain ⟨z, h1, h2⟩ := okB_cases (bigOk_ok h)
  have h3 := congrArg natI h1
  rw [natI_limI, natI_limI] at h3
  exact capL_yes (by rw [h3]; exact h2)

set_option maxHeartbeats 1000000 in
theorem spec_bigNeg (b0 : Bool) (va : Value) (zs0 : List Int) (w : World) (ha : RowOf iV w va zs0) :
    Calls Try.prog 23 #[.agg #[.bool b0, va]] w fun e w' => ∃ v, e = .returned (.agg #[.bool (bigNegB b0 zs0), v]) ∧ OwnI w' w.heap.size v (bigNegL b0 zs0) ∧ Below w.heap.size w w' := by
  have K0 := Lib.hid (fun W (hW : Below w.heap.size w W) => spec_bigOk b0 va zs0 W (rowOf_below ha hW))
  cases e0 : bigOk b0 zs0 with
  | false =>
    have HE := Lib.hid (bigNeg_no (zs0 := zs0) e0)
    rw [e0] at K0
    clear e0
    obtain ⟨aa, ca, rfl, h1, h2, h3⟩ := ha
    clear h1 h2 h3
    go_enter Try.func23, Try.ntmps23
    go_wp2_with (go_at_call 13; refine (K0.out _ (((Below.refl _ _).alloc (Nat.le_refl _) _).alloc (by simp) _)).mono ?_; rintro e w' ⟨rfl, rfl⟩)
    exact bodyPost_ret (v := .agg #[.bool false, .slice none 0 0]) (by simp [results, Try.results23, go_sem]) rfl ⟨_, by rw [HE.out.1], by rw [HE.out.2]; exact OwnI.nil _ _, ((((Below.refl _ _).alloc (Nat.le_refl _) _).alloc (by simp) _).alloc (by simp; omega) _)⟩
  | true =>
    obtain ⟨x, rfl, hx⟩ := okB_cases (bigOk_ok e0)
    have HE := Lib.hid (bigNeg_yes e0)
    have HX := Lib.hid ((nlen_le_iff _ _).2 hx)
    have RA := Lib.hid ha
    rw [e0] at K0
    have E0 := Lib.hid e0
    obtain ⟨aa, ca, rfl, h1, h2, h3⟩ := ha
    clear h1 h2 h3
    rw [limI_length] at RA K0 ⊢
    obtain ⟨nx, hnx⟩ : ∃ n, nlen x = n := ⟨_, rfl⟩
    rw [hnx] at RA K0 HX ⊢
    have NX := Lib.hid hnx
    clear hnx hx e0
    rw [HE.out.1, HE.out.2]
    go_enter Try.func23, Try.ntmps23
    go_wp2_with fail
    refine (K0.out _ (((Below.refl _ _).alloc (Nat.le_refl _) _).alloc (by simp) _)).mono ?_
    rintro e w' ⟨rfl, rfl⟩
    go_wp2_with fail
    obtain ⟨W0, hW0⟩ : ∃ x, x = (((w.alloc (.cells #[.bool b0, .slice aa nx ca] 27)).alloc (.cells #[.bool false, .slice none 0 0] 27)).alloc (.cells #[.bool b0, .slice aa nx ca] 27)) := ⟨_, rfl⟩
    have B := Lib.hid (show Below w.heap.size w W0 by rw [hW0]; exact ((((Below.refl _ _).alloc (Nat.le_refl _) _).alloc (by simp) _).alloc (by simp; omega) _))
    have D_x := Lib.hid (bx_at (show Bx W0 _ 27 b0 (.slice aa nx ca) by rw [hW0]; exact ((Bx.new _ _ _ _).alloc _).alloc _) (show w.heap.size = _ by simp))
    have D_r := Lib.hid (bx_at (show Bx W0 _ 27 false (.slice none 0 0) by rw [hW0]; exact (Bx.new _ _ _ _).alloc _) (show (w.heap.size + 1) = _ by simp))
    have SZ := Lib.hid (show W0.heap.size = w.heap.size + 1 + 1 + 1 by rw [hW0]; simp)
    rw [← hW0]
    clear hW0
    refine (spec_make (!b0) _ x _ _ (row_limF (rowOf_below RA.out B.out)) (Nat.le_refl _)).mono ?_
    rintro e w1 ⟨v_r0, rfl, o_r0, bw1⟩
    obtain ⟨a_r0, c_r0, rfl⟩ := o_r0.slice
    replace D_x := Lib.hid (D_x.out.below bw1)
    replace D_r := Lib.hid (D_r.out.below bw1)
    have Z1 := Lib.hid bw1.size
    replace B := Lib.hid (B.out.trans (bw1.mono B.out.size))
    have O_r0 := Lib.hid o_r0
    clear o_r0
    clear bw1
    have c0_r := D_r.out.c0
    have c1_r := D_r.out.c1
    have f0_r := D_r.out.f0
    have f1_r := D_r.out.f1
    go_wp2
    obtain ⟨e1, e2⟩ := big_end (p := (w.heap.size + 1)) B.out O_r0.out (by have := SZ.out; have := Z1.out; omega) (by have := SZ.out; have := Z1.out; omega) (by omega) (.bool (sgB (!b0) (capL x))) (.slice a_r0 (capL x).length c_r0)
    exact bodyPost_ret (v := .agg #[.bool (sgB (!b0) (capL x)), .slice a_r0 (capL x).length c_r0]) (by simp [results, Try.results23, go_sem, c0_r, c1_r]) rfl ⟨_, rfl, e1, e2⟩

set_option maxHeartbeats 1000000 in
theorem impl_bigNeg (b0 : Bool) (va : Value) (zs0 : List Int) (w : World) (ha : RowOf iV w va zs0) :
    Calls Try.prog 24 #[.agg #[.bool b0, va]] w fun e w' => ∃ v, e = .returned (.agg #[.bool (bigNegB b0 zs0), v]) ∧ OwnI w' w.heap.size v (bigNegL b0 zs0) ∧ Below w.heap.size w w' := by
  have K0 := Lib.hid (fun W (hW : Below w.heap.size w W) => impl_bigOk b0 va zs0 W (rowOf_below ha hW))
  cases e0 : bigOk b0 zs0 with
  | false =>
    have HE := Lib.hid (bigNeg_no (zs0 := zs0) e0)
    rw [e0] at K0
    clear e0
    obtain ⟨aa, ca, rfl, h1, h2, h3⟩ := ha
    clear h1 h2 h3
    go_enter Try.func24, Try.ntmps24
    go_wp2_with (go_at_call 15; refine (K0.out _ (((Below.refl _ _).alloc (Nat.le_refl _) _).alloc (by simp) _)).mono ?_; rintro e w' ⟨rfl, rfl⟩)
    exact bodyPost_ret (v := .agg #[.bool false, .slice none 0 0]) (by simp [results, Try.results24, go_sem]) rfl ⟨_, by rw [HE.out.1], by rw [HE.out.2]; exact OwnI.nil _ _, ((((Below.refl _ _).alloc (Nat.le_refl _) _).alloc (by simp) _).alloc (by simp; omega) _)⟩
  | true =>
    obtain ⟨x, rfl, hx⟩ := okB_cases (bigOk_ok e0)
    have HE := Lib.hid (bigNeg_yes e0)
    have HX := Lib.hid ((nlen_le_iff _ _).2 hx)
    have RA := Lib.hid ha
    rw [e0] at K0
    have E0 := Lib.hid e0
    obtain ⟨aa, ca, rfl, h1, h2, h3⟩ := ha
    clear h1 h2 h3
    rw [limI_length] at RA K0 ⊢
    obtain ⟨nx, hnx⟩ : ∃ n, nlen x = n := ⟨_, rfl⟩
    rw [hnx] at RA K0 HX ⊢
    have NX := Lib.hid hnx
    clear hnx hx e0
    rw [HE.out.1, HE.out.2]
    go_enter Try.func24, Try.ntmps24
    go_wp2_with fail
    refine (K0.out _ (((Below.refl _ _).alloc (Nat.le_refl _) _).alloc (by simp) _)).mono ?_
    rintro e w' ⟨rfl, rfl⟩
    go_wp2_with fail
    obtain ⟨W0, hW0⟩ : ∃ x, x = (((w.alloc (.cells #[.bool b0, .slice aa nx ca] 27)).alloc (.cells #[.bool false, .slice none 0 0] 27)).alloc (.cells #[.bool b0, .slice aa nx ca] 27)) := ⟨_, rfl⟩
    have B := Lib.hid (show Below w.heap.size w W0 by rw [hW0]; exact ((((Below.refl _ _).alloc (Nat.le_refl _) _).alloc (by simp) _).alloc (by simp; omega) _))
    have D_x := Lib.hid (bx_at (show Bx W0 _ 27 b0 (.slice aa nx ca) by rw [hW0]; exact ((Bx.new _ _ _ _).alloc _).alloc _) (show w.heap.size = _ by simp))
    have D_r := Lib.hid (bx_at (show Bx W0 _ 27 false (.slice none 0 0) by rw [hW0]; exact (Bx.new _ _ _ _).alloc _) (show (w.heap.size + 1) = _ by simp))
    have SZ := Lib.hid (show W0.heap.size = w.heap.size + 1 + 1 + 1 by rw [hW0]; simp)
    rw [← hW0]
    clear hW0
    refine (impl_withSign (!b0) _ x _ (rowOf_below RA.out B.out)).mono ?_
    rintro e w1 ⟨v_r0, rfl, o_r0, bw1⟩
    obtain ⟨a_r0, c_r0, rfl⟩ := o_r0.slice
    replace D_x := Lib.hid (D_x.out.below bw1)
    replace D_r := Lib.hid (D_r.out.below bw1)
    have Z1 := Lib.hid bw1.size
    replace B := Lib.hid (B.out.trans (bw1.mono B.out.size))
    have O_r0 := Lib.hid o_r0
    clear o_r0
    clear bw1
    have c0_r := D_r.out.c0
    have c1_r := D_r.out.c1
    have f0_r := D_r.out.f0
    have f1_r := D_r.out.f1
    go_wp2
    obtain ⟨e1, e2⟩ := big_end (p := (w.heap.size + 1)) B.out O_r0.out (by have := SZ.out; have := Z1.out; omega) (by have := SZ.out; have := Z1.out; omega) (by omega) (.bool (sgB (!b0) (capL x))) (.slice a_r0 (capL x).length c_r0)
    exact bodyPost_ret (v := .agg #[.bool (sgB (!b0) (capL x)), .slice a_r0 (capL x).length c_r0]) (by simp [results, Try.results24, go_sem, c0_r, c1_r]) rfl ⟨_, rfl, e1, e2⟩

set_option maxHeartbeats 1000000 in
theorem spec_bigAdd (b0 : Bool) (va : Value) (zs0 : List Int) (b1 : Bool) (vb : Value) (zs1 : List Int) (w : World) (ha : RowOf iV w va zs0) (hb : RowOf iV w vb zs1) :
    Calls Try.prog 25 #[.agg #[.bool b0, va], .agg #[.bool b1, vb]] w fun e w' => ∃ v, e = .returned (.agg #[.bool (bigAddB b0 zs0 b1 zs1), v]) ∧ OwnI w' w.heap.size v (bigAddL b0 zs0 b1 zs1) ∧ Below w.heap.size w w' := by
  have K0 := Lib.hid (fun W (hW : Below w.heap.size w W) => spec_bigOk b0 va zs0 W (rowOf_below ha hW))
  have K1 := Lib.hid (fun W (hW : Below w.heap.size w W) => spec_bigOk b1 vb zs1 W (rowOf_below hb hW))
  cases e0 : bigOk b0 zs0 with
  | false =>
    have HE := Lib.hid (bigAdd_no (zs0 := zs0) (b1 := b1) (zs1 := zs1) (.inl e0))
    rw [e0] at K0
    clear e0
    obtain ⟨aa, ca, rfl, h1, h2, h3⟩ := ha
    clear h1 h2 h3
    obtain ⟨ab, cb, rfl, h4, h5, h6⟩ := hb
    clear h4 h5 h6
    go_enter Try.func25, Try.ntmps25
    go_wp2_with (go_at_call 13; refine (K0.out _ ((((Below.refl _ _).alloc (Nat.le_refl _) _).alloc (by simp) _).alloc (by simp; omega) _)).mono ?_; rintro e w' ⟨rfl, rfl⟩)
    exact bodyPost_ret (v := .agg #[.bool false, .slice none 0 0]) (by simp [results, Try.results25, go_sem]) rfl ⟨_, by rw [HE.out.1], by rw [HE.out.2]; exact OwnI.nil _ _, (((((Below.refl _ _).alloc (Nat.le_refl _) _).alloc (by simp) _).alloc (by simp; omega) _).alloc (by simp; omega) _)⟩
  | true =>
    cases e1 : bigOk b1 zs1 with
    | false =>
      have HE := Lib.hid (bigAdd_no (b0 := b0) (zs0 := zs0) (zs1 := zs1) (.inr e1))
      rw [e0] at K0
      rw [e1] at K1
      clear e0 e1
      obtain ⟨aa, ca, rfl, h1, h2, h3⟩ := ha
      clear h1 h2 h3
      obtain ⟨ab, cb, rfl, h4, h5, h6⟩ := hb
      clear h4 h5 h6
      go_enter Try.func25, Try.ntmps25
      go_wp2_with fail
      refine (K0.out _ ((((Below.refl _ _).alloc (Nat.le_refl _) _).alloc (by simp) _).alloc (by simp; omega) _)).mono ?_
      rintro e w' ⟨rfl, rfl⟩
      go_wp2_with fail
      refine (K1.out _ (((((Below.refl _ _).alloc (Nat.le_refl _) _).alloc (by simp) _).alloc (by simp; omega) _).alloc (by simp; omega) _)).mono ?_
      rintro e w' ⟨rfl, rfl⟩
      go_wp2
      exact bodyPost_ret (v := .agg #[.bool false, .slice none 0 0]) (by simp [results, Try.results25, go_sem]) rfl ⟨_, by rw [HE.out.1], by rw [HE.out.2]; exact OwnI.nil _ _, ((((((Below.refl _ _).alloc (Nat.le_refl _) _).alloc (by simp) _).alloc (by simp; omega) _).alloc (by simp; omega) _).alloc (by simp; omega) _)⟩
    | true =>
      obtain ⟨x, rfl, hx⟩ := okB_cases (bigOk_ok e0)
      obtain ⟨y, rfl, hy⟩ := okB_cases (bigOk_ok e1)
      have HE := Lib.hid (bigAdd_yes e0 e1)
      have HX := Lib.hid ((nlen_le_iff _ _).2 hx)
      have RA := Lib.hid ha
      rw [e0] at K0
      have HY := Lib.hid ((nlen_le_iff _ _).2 hy)
      have RB := Lib.hid hb
      rw [e1] at K1
      have E0 := Lib.hid e0
      have E1 := Lib.hid e1
      obtain ⟨aa, ca, rfl, h1, h2, h3⟩ := ha
      clear h1 h2 h3
      obtain ⟨ab, cb, rfl, h4, h5, h6⟩ := hb
      clear h4 h5 h6
      rw [limI_length] at RA K0 ⊢
      rw [limI_length] at RB K1
      try rw [limI_length]
      obtain ⟨nx, hnx⟩ : ∃ n, nlen x = n := ⟨_, rfl⟩
      rw [hnx] at RA K0 HX ⊢
      obtain ⟨ny, hny⟩ : ∃ n, nlen y = n := ⟨_, rfl⟩
      rw [hny] at RB K1 HY
      try rw [hny]
      have NX := Lib.hid hnx
      clear hnx hx e0 hy e1
      have NY := Lib.hid hny
      clear hny
      rw [HE.out.1, HE.out.2]
      go_enter Try.func25, Try.ntmps25
      go_wp2_with fail
      refine (K0.out _ ((((Below.refl _ _).alloc (Nat.le_refl _) _).alloc (by simp) _).alloc (by simp; omega) _)).mono ?_
      rintro e w' ⟨rfl, rfl⟩
      go_wp2_with fail
      refine (K1.out _ (((((Below.refl _ _).alloc (Nat.le_refl _) _).alloc (by simp) _).alloc (by simp; omega) _).alloc (by simp; omega) _)).mono ?_
      rintro e w' ⟨rfl, rfl⟩
      go_wp2_with fail
      obtain ⟨W0, hW0⟩ : ∃ x, x = (((((w.alloc (.cells #[.bool b0, .slice aa nx ca] 27)).alloc (.cells #[.bool b1, .slice ab ny cb] 27)).alloc (.cells #[.bool false, .slice none 0 0] 27)).alloc (.cells #[.bool b0, .slice aa nx ca] 27)).alloc (.cells #[.bool b1, .slice ab ny cb] 27)) := ⟨_, rfl⟩
      have B := Lib.hid (show Below w.heap.size w W0 by rw [hW0]; exact ((((((Below.refl _ _).alloc (Nat.le_refl _) _).alloc (by simp) _).alloc (by simp; omega) _).alloc (by simp; omega) _).alloc (by simp; omega) _))
      have D_x := Lib.hid (bx_at (show Bx W0 _ 27 b0 (.slice aa nx ca) by rw [hW0]; exact ((((Bx.new _ _ _ _).alloc _).alloc _).alloc _).alloc _) (show w.heap.size = _ by simp))
      have D_y := Lib.hid (bx_at (show Bx W0 _ 27 b1 (.slice ab ny cb) by rw [hW0]; exact (((Bx.new _ _ _ _).alloc _).alloc _).alloc _) (show (w.heap.size + 1) = _ by simp))
      have D_r := Lib.hid (bx_at (show Bx W0 _ 27 false (.slice none 0 0) by rw [hW0]; exact ((Bx.new _ _ _ _).alloc _).alloc _) (show (w.heap.size + 1 + 1) = _ by simp))
      have SZ := Lib.hid (show W0.heap.size = w.heap.size + 1 + 1 + 1 + 1 + 1 by rw [hW0]; simp)
      rw [← hW0]
      clear hW0
      refine (spec_addBig b0 _ x b1 _ y _ (rowOf_below RA.out B.out) (rowOf_below RB.out B.out) (by have := HX.out; have := NX.out; omega) (by have := HY.out; have := NY.out; omega)).mono ?_
      rintro e w1 ⟨v_r0, rfl, o_r0, bw1⟩
      obtain ⟨a_r0, c_r0, rfl⟩ := o_r0.slice
      replace D_x := Lib.hid (D_x.out.below bw1)
      replace D_y := Lib.hid (D_y.out.below bw1)
      replace D_r := Lib.hid (D_r.out.below bw1)
      have Z1 := Lib.hid bw1.size
      replace B := Lib.hid (B.out.trans (bw1.mono B.out.size))
      have O_r0 := Lib.hid o_r0
      clear o_r0
      clear bw1
      have c0_r := D_r.out.c0
      have c1_r := D_r.out.c1
      have f0_r := D_r.out.f0
      have f1_r := D_r.out.f1
      go_wp2
      obtain ⟨e1, e2⟩ := big_end (p := (w.heap.size + 1 + 1)) B.out O_r0.out (by have := SZ.out; have := Z1.out; omega) (by have := SZ.out; have := Z1.out; omega) (by omega) (.bool (sgB (sgAddB b0 x b1 y) (capL (sgAddN b0 x b1 y)))) (.slice a_r0 (capL (sgAddN b0 x b1 y)).length c_r0)
      exact bodyPost_ret (v := .agg #[.bool (sgB (sgAddB b0 x b1 y) (capL (sgAddN b0 x b1 y))), .slice a_r0 (capL (sgAddN b0 x b1 y)).length c_r0]) (by simp [results, Try.results25, go_sem, c0_r, c1_r]) rfl ⟨_, rfl, e1, e2⟩

set_option maxHeartbeats 1000000 in
theorem impl_bigAdd (b0 : Bool) (va : Value) (zs0 : List Int) (b1 : Bool) (vb : Value) (zs1 : List Int) (w : World) (ha : RowOf iV w va zs0) (hb : RowOf iV w vb zs1) :
    Calls Try.prog 26 #[.agg #[.bool b0, va], .agg #[.bool b1, vb]] w fun e w' => ∃ v, e = .returned (.agg #[.bool (bigAddB b0 zs0 b1 zs1), v]) ∧ OwnI w' w.heap.size v (bigAddL b0 zs0 b1 zs1) ∧ Below w.heap.size w w' := by
  have K0 := Lib.hid (fun W (hW : Below w.heap.size w W) => impl_bigOk b0 va zs0 W (rowOf_below ha hW))
  have K1 := Lib.hid (fun W (hW : Below w.heap.size w W) => impl_bigOk b1 vb zs1 W (rowOf_below hb hW))
  cases e0 : bigOk b0 zs0 with
  | false =>
    have HE := Lib.hid (bigAdd_no (zs0 := zs0) (b1 := b1) (zs1 := zs1) (.inl e0))
    rw [e0] at K0
    clear e0
    obtain ⟨aa, ca, rfl, h1, h2, h3⟩ := ha
    clear h1 h2 h3
    obtain ⟨ab, cb, rfl, h4, h5, h6⟩ := hb
    clear h4 h5 h6
    go_enter Try.func26, Try.ntmps26
    go_wp2_with (go_at_call 15; refine (K0.out _ ((((Below.refl _ _).alloc (Nat.le_refl _) _).alloc (by simp) _).alloc (by simp; omega) _)).mono ?_; rintro e w' ⟨rfl, rfl⟩)
    exact bodyPost_ret (v := .agg #[.bool false, .slice none 0 0]) (by simp [results, Try.results26, go_sem]) rfl ⟨_, by rw [HE.out.1], by rw [HE.out.2]; exact OwnI.nil _ _, (((((Below.refl _ _).alloc (Nat.le_refl _) _).alloc (by simp) _).alloc (by simp; omega) _).alloc (by simp; omega) _)⟩
  | true =>
    cases e1 : bigOk b1 zs1 with
    | false =>
      have HE := Lib.hid (bigAdd_no (b0 := b0) (zs0 := zs0) (zs1 := zs1) (.inr e1))
      rw [e0] at K0
      rw [e1] at K1
      clear e0 e1
      obtain ⟨aa, ca, rfl, h1, h2, h3⟩ := ha
      clear h1 h2 h3
      obtain ⟨ab, cb, rfl, h4, h5, h6⟩ := hb
      clear h4 h5 h6
      go_enter Try.func26, Try.ntmps26
      go_wp2_with fail
      refine (K0.out _ ((((Below.refl _ _).alloc (Nat.le_refl _) _).alloc (by simp) _).alloc (by simp; omega) _)).mono ?_
      rintro e w' ⟨rfl, rfl⟩
      go_wp2_with fail
      refine (K1.out _ (((((Below.refl _ _).alloc (Nat.le_refl _) _).alloc (by simp) _).alloc (by simp; omega) _).alloc (by simp; omega) _)).mono ?_
      rintro e w' ⟨rfl, rfl⟩
      go_wp2
      exact bodyPost_ret (v := .agg #[.bool false, .slice none 0 0]) (by simp [results, Try.results26, go_sem]) rfl ⟨_, by rw [HE.out.1], by rw [HE.out.2]; exact OwnI.nil _ _, ((((((Below.refl _ _).alloc (Nat.le_refl _) _).alloc (by simp) _).alloc (by simp; omega) _).alloc (by simp; omega) _).alloc (by simp; omega) _)⟩
    | true =>
      obtain ⟨x, rfl, hx⟩ := okB_cases (bigOk_ok e0)
      obtain ⟨y, rfl, hy⟩ := okB_cases (bigOk_ok e1)
      have HE := Lib.hid (bigAdd_yes e0 e1)
      have HX := Lib.hid ((nlen_le_iff _ _).2 hx)
      have RA := Lib.hid ha
      rw [e0] at K0
      have HY := Lib.hid ((nlen_le_iff _ _).2 hy)
      have RB := Lib.hid hb
      rw [e1] at K1
      have E0 := Lib.hid e0
      have E1 := Lib.hid e1
      obtain ⟨aa, ca, rfl, h1, h2, h3⟩ := ha
      clear h1 h2 h3
      obtain ⟨ab, cb, rfl, h4, h5, h6⟩ := hb
      clear h4 h5 h6
      rw [limI_length] at RA K0 ⊢
      rw [limI_length] at RB K1
      try rw [limI_length]
      obtain ⟨nx, hnx⟩ : ∃ n, nlen x = n := ⟨_, rfl⟩
      rw [hnx] at RA K0 HX ⊢
      obtain ⟨ny, hny⟩ : ∃ n, nlen y = n := ⟨_, rfl⟩
      rw [hny] at RB K1 HY
      try rw [hny]
      have NX := Lib.hid hnx
      clear hnx hx e0 hy e1
      have NY := Lib.hid hny
      clear hny
      rw [HE.out.1, HE.out.2]
      go_enter Try.func26, Try.ntmps26
      go_wp2_with fail
      refine (K0.out _ ((((Below.refl _ _).alloc (Nat.le_refl _) _).alloc (by simp) _).alloc (by simp; omega) _)).mono ?_
      rintro e w' ⟨rfl, rfl⟩
      go_wp2_with fail
      refine (K1.out _ (((((Below.refl _ _).alloc (Nat.le_refl _) _).alloc (by simp) _).alloc (by simp; omega) _).alloc (by simp; omega) _)).mono ?_
      rintro e w' ⟨rfl, rfl⟩
      go_wp2_with fail
      obtain ⟨W0, hW0⟩ : ∃ x, x = (((((w.alloc (.cells #[.bool b0, .slice aa nx ca] 27)).alloc (.cells #[.bool b1, .slice ab ny cb] 27)).alloc (.cells #[.bool false, .slice none 0 0] 27)).alloc (.cells #[.bool b0, .slice aa nx ca] 27)).alloc (.cells #[.bool b1, .slice ab ny cb] 27)) := ⟨_, rfl⟩
      have B := Lib.hid (show Below w.heap.size w W0 by rw [hW0]; exact ((((((Below.refl _ _).alloc (Nat.le_refl _) _).alloc (by simp) _).alloc (by simp; omega) _).alloc (by simp; omega) _).alloc (by simp; omega) _))
      have D_x := Lib.hid (bx_at (show Bx W0 _ 27 b0 (.slice aa nx ca) by rw [hW0]; exact ((((Bx.new _ _ _ _).alloc _).alloc _).alloc _).alloc _) (show w.heap.size = _ by simp))
      have D_y := Lib.hid (bx_at (show Bx W0 _ 27 b1 (.slice ab ny cb) by rw [hW0]; exact (((Bx.new _ _ _ _).alloc _).alloc _).alloc _) (show (w.heap.size + 1) = _ by simp))
      have D_r := Lib.hid (bx_at (show Bx W0 _ 27 false (.slice none 0 0) by rw [hW0]; exact ((Bx.new _ _ _ _).alloc _).alloc _) (show (w.heap.size + 1 + 1) = _ by simp))
      have SZ := Lib.hid (show W0.heap.size = w.heap.size + 1 + 1 + 1 + 1 + 1 by rw [hW0]; simp)
      rw [← hW0]
      clear hW0
      refine (impl_plusBig b0 _ x b1 _ y _ (rowOf_below RA.out B.out) (rowOf_below RB.out B.out) (by have := HX.out; have := NX.out; omega) (by have := HY.out; have := NY.out; omega)).mono ?_
      rintro e w1 ⟨v_r0, rfl, o_r0, bw1⟩
      obtain ⟨a_r0, c_r0, rfl⟩ := o_r0.slice
      replace D_x := Lib.hid (D_x.out.below bw1)
      replace D_y := Lib.hid (D_y.out.below bw1)
      replace D_r := Lib.hid (D_r.out.below bw1)
      have Z1 := Lib.hid bw1.size
      replace B := Lib.hid (B.out.trans (bw1.mono B.out.size))
      have O_r0 := Lib.hid o_r0
      clear o_r0
      clear bw1
      have c0_r := D_r.out.c0
      have c1_r := D_r.out.c1
      have f0_r := D_r.out.f0
      have f1_r := D_r.out.f1
      go_wp2
      obtain ⟨e1, e2⟩ := big_end (p := (w.heap.size + 1 + 1)) B.out O_r0.out (by have := SZ.out; have := Z1.out; omega) (by have := SZ.out; have := Z1.out; omega) (by omega) (.bool (sgB (sgAddB b0 x b1 y) (capL (sgAddN b0 x b1 y)))) (.slice a_r0 (capL (sgAddN b0 x b1 y)).length c_r0)
      exact bodyPost_ret (v := .agg #[.bool (sgB (sgAddB b0 x b1 y) (capL (sgAddN b0 x b1 y))), .slice a_r0 (capL (sgAddN b0 x b1 y)).length c_r0]) (by simp [results, Try.results26, go_sem, c0_r, c1_r]) rfl ⟨_, rfl, e1, e2⟩

set_option maxHeartbeats 1000000 in
theorem impl_bigSub (b0 : Bool) (va : Value) (zs0 : List Int) (b1 : Bool) (vb : Value) (zs1 : List Int) (w : World) (ha : RowOf iV w va zs0) (hb : RowOf iV w vb zs1) :
    Calls Try.prog 28 #[.agg #[.bool b0, va], .agg #[.bool b1, vb]] w fun e w' => ∃ v, e = .returned (.agg #[.bool (bigSubB b0 zs0 b1 zs1), v]) ∧ OwnI w' w.heap.size v (bigSubL b0 zs0 b1 zs1) ∧ Below w.heap.size w w' := by
  have K0 := Lib.hid (fun W (hW : Below w.heap.size w W) => impl_bigOk b0 va zs0 W (rowOf_below ha hW))
  have K1 := Lib.hid (fun W (hW : Below w.heap.size w W) => impl_bigOk b1 vb zs1 W (rowOf_below hb hW))
  cases e0 : bigOk b0 zs0 with
  | false =>
    have HE := Lib.hid (bigSub_no (zs0 := zs0) (b1 := b1) (zs1 := zs1) (.inl e0))
    rw [e0] at K0
    clear e0
    obtain ⟨aa, ca, rfl, h1, h2, h3⟩ := ha
    clear h1 h2 h3
    obtain ⟨ab, cb, rfl, h4, h5, h6⟩ := hb
    clear h4 h5 h6
    go_enter Try.func28, Try.ntmps28
    go_wp2_with (go_at_call 15; refine (K0.out _ ((((Below.refl _ _).alloc (Nat.le_refl _) _).alloc (by simp) _).alloc (by simp; omega) _)).mono ?_; rintro e w' ⟨rfl, rfl⟩)
    exact bodyPost_ret (v := .agg #[.bool false, .slice none 0 0]) (by simp [results, Try.results28, go_sem]) rfl ⟨_, by rw [HE.out.1], by rw [HE.out.2]; exact OwnI.nil _ _, (((((Below.refl _ _).alloc (Nat.le_refl _) _).alloc (by simp) _).alloc (by simp; omega) _).alloc (by simp; omega) _)⟩
  | true =>
    cases e1 : bigOk b1 zs1 with
    | false =>
      have HE := Lib.hid (bigSub_no (b0 := b0) (zs0 := zs0) (zs1 := zs1) (.inr e1))
      rw [e0] at K0
      rw [e1] at K1
      clear e0 e1
      obtain ⟨aa, ca, rfl, h1, h2, h3⟩ := ha
      clear h1 h2 h3
      obtain ⟨ab, cb, rfl, h4, h5, h6⟩ := hb
      clear h4 h5 h6
      go_enter Try.func28, Try.ntmps28
      go_wp2_with fail
      refine (K0.out _ ((((Below.refl _ _).alloc (Nat.le_refl _) _).alloc (by simp) _).alloc (by simp; omega) _)).mono ?_
      rintro e w' ⟨rfl, rfl⟩
      go_wp2_with fail
      refine (K1.out _ (((((Below.refl _ _).alloc (Nat.le_refl _) _).alloc (by simp) _).alloc (by simp; omega) _).alloc (by simp; omega) _)).mono ?_
      rintro e w' ⟨rfl, rfl⟩
      go_wp2
      exact bodyPost_ret (v := .agg #[.bool false, .slice none 0 0]) (by simp [results, Try.results28, go_sem]) rfl ⟨_, by rw [HE.out.1], by rw [HE.out.2]; exact OwnI.nil _ _, ((((((Below.refl _ _).alloc (Nat.le_refl _) _).alloc (by simp) _).alloc (by simp; omega) _).alloc (by simp; omega) _).alloc (by simp; omega) _)⟩
    | true =>
      obtain ⟨x, rfl, hx⟩ := okB_cases (bigOk_ok e0)
      obtain ⟨y, rfl, hy⟩ := okB_cases (bigOk_ok e1)
      have HE := Lib.hid (bigSub_yes e0 e1)
      have HX := Lib.hid ((nlen_le_iff _ _).2 hx)
      have RA := Lib.hid ha
      rw [e0] at K0
      have HY := Lib.hid ((nlen_le_iff _ _).2 hy)
      have RB := Lib.hid hb
      rw [e1] at K1
      have E0 := Lib.hid e0
      have E1 := Lib.hid e1
      obtain ⟨aa, ca, rfl, h1, h2, h3⟩ := ha
      clear h1 h2 h3
      obtain ⟨ab, cb, rfl, h4, h5, h6⟩ := hb
      clear h4 h5 h6
      rw [limI_length] at RA K0 ⊢
      rw [limI_length] at RB K1
      try rw [limI_length]
      obtain ⟨nx, hnx⟩ : ∃ n, nlen x = n := ⟨_, rfl⟩
      rw [hnx] at RA K0 HX ⊢
      obtain ⟨ny, hny⟩ : ∃ n, nlen y = n := ⟨_, rfl⟩
      rw [hny] at RB K1 HY
      try rw [hny]
      have NX := Lib.hid hnx
      clear hnx hx e0 hy e1
      have NY := Lib.hid hny
      clear hny
      rw [HE.out.1, HE.out.2]
      go_enter Try.func28, Try.ntmps28
      go_wp2_with fail
      refine (K0.out _ ((((Below.refl _ _).alloc (Nat.le_refl _) _).alloc (by simp) _).alloc (by simp; omega) _)).mono ?_
      rintro e w' ⟨rfl, rfl⟩
      go_wp2_with fail
      refine (K1.out _ (((((Below.refl _ _).alloc (Nat.le_refl _) _).alloc (by simp) _).alloc (by simp; omega) _).alloc (by simp; omega) _)).mono ?_
      rintro e w' ⟨rfl, rfl⟩
      go_wp2_with fail
      obtain ⟨W0, hW0⟩ : ∃ x, x = (((((w.alloc (.cells #[.bool b0, .slice aa nx ca] 27)).alloc (.cells #[.bool b1, .slice ab ny cb] 27)).alloc (.cells #[.bool false, .slice none 0 0] 27)).alloc (.cells #[.bool b0, .slice aa nx ca] 27)).alloc (.cells #[.bool b1, .slice ab ny cb] 27)) := ⟨_, rfl⟩
      have B := Lib.hid (show Below w.heap.size w W0 by rw [hW0]; exact ((((((Below.refl _ _).alloc (Nat.le_refl _) _).alloc (by simp) _).alloc (by simp; omega) _).alloc (by simp; omega) _).alloc (by simp; omega) _))
      have D_x := Lib.hid (bx_at (show Bx W0 _ 27 b0 (.slice aa nx ca) by rw [hW0]; exact ((((Bx.new _ _ _ _).alloc _).alloc _).alloc _).alloc _) (show w.heap.size = _ by simp))
      have D_y := Lib.hid (bx_at (show Bx W0 _ 27 b1 (.slice ab ny cb) by rw [hW0]; exact (((Bx.new _ _ _ _).alloc _).alloc _).alloc _) (show (w.heap.size + 1) = _ by simp))
      have D_r := Lib.hid (bx_at (show Bx W0 _ 27 false (.slice none 0 0) by rw [hW0]; exact ((Bx.new _ _ _ _).alloc _).alloc _) (show (w.heap.size + 1 + 1) = _ by simp))
      have SZ := Lib.hid (show W0.heap.size = w.heap.size + 1 + 1 + 1 + 1 + 1 by rw [hW0]; simp)
      rw [← hW0]
      clear hW0
      refine (impl_plusBig b0 _ x (!b1) _ y _ (rowOf_below RA.out B.out) (rowOf_below RB.out B.out) (by have := HX.out; have := NX.out; omega) (by have := HY.out; have := NY.out; omega)).mono ?_
      rintro e w1 ⟨v_r0, rfl, o_r0, bw1⟩
      obtain ⟨a_r0, c_r0, rfl⟩ := o_r0.slice
      replace D_x := Lib.hid (D_x.out.below bw1)
      replace D_y := Lib.hid (D_y.out.below bw1)
      replace D_r := Lib.hid (D_r.out.below bw1)
      have Z1 := Lib.hid bw1.size
      replace B := Lib.hid (B.out.trans (bw1.mono B.out.size))
      have O_r0 := Lib.hid o_r0
      clear o_r0
      clear bw1
      have c0_r := D_r.out.c0
      have c1_r := D_r.out.c1
      have f0_r := D_r.out.f0
      have f1_r := D_r.out.f1
      go_wp2
      obtain ⟨e1, e2⟩ := big_end (p := (w.heap.size + 1 + 1)) B.out O_r0.out (by have := SZ.out; have := Z1.out; omega) (by have := SZ.out; have := Z1.out; omega) (by omega) (.bool (sgB (sgAddB b0 x (!b1) y) (capL (sgAddN b0 x (!b1) y)))) (.slice a_r0 (capL (sgAddN b0 x (!b1) y)).length c_r0)
      exact bodyPost_ret (v := .agg #[.bool (sgB (sgAddB b0 x (!b1) y) (capL (sgAddN b0 x (!b1) y))), .slice a_r0 (capL (sgAddN b0 x (!b1) y)).length c_r0]) (by simp [results, Try.results28, go_sem, c0_r, c1_r]) rfl ⟨_, rfl, e1, e2⟩

set_option maxHeartbeats 1000000 in
theorem spec_bigSub (b0 : Bool) (va : Value) (zs0 : List Int) (b1 : Bool) (vb : Value) (zs1 : List Int) (w : World) (ha : RowOf iV w va zs0) (hb : RowOf iV w vb zs1) :
    Calls Try.prog 27 #[.agg #[.bool b0, va], .agg #[.bool b1, vb]] w fun e w' => ∃ v, e = .returned (.agg #[.bool (bigSubB b0 zs0 b1 zs1), v]) ∧ OwnI w' w.heap.size v (bigSubL b0 zs0 b1 zs1) ∧ Below w.heap.size w w' := by
  have K0 := Lib.hid (fun W (hW : Below w.heap.size w W) => spec_bigOk b0 va zs0 W (rowOf_below ha hW))
  have K1 := Lib.hid (fun W (hW : Below w.heap.size w W) => spec_bigOk b1 vb zs1 W (rowOf_below hb hW))
  cases e0 : bigOk b0 zs0 with
  | false =>
    have HE := Lib.hid (bigSub_no (zs0 := zs0) (b1 := b1) (zs1 := zs1) (.inl e0))
    rw [e0] at K0
    clear e0
    obtain ⟨aa, ca, rfl, h1, h2, h3⟩ := ha
    clear h1 h2 h3
    obtain ⟨ab, cb, rfl, h4, h5, h6⟩ := hb
    clear h4 h5 h6
    go_enter Try.func27, Try.ntmps27
    go_wp2_with (go_at_call 13; refine (K0.out _ ((((Below.refl _ _).alloc (Nat.le_refl _) _).alloc (by simp) _).alloc (by simp; omega) _)).mono ?_; rintro e w' ⟨rfl, rfl⟩)
    exact bodyPost_ret (v := .agg #[.bool false, .slice none 0 0]) (by simp [results, Try.results27, go_sem]) rfl ⟨_, by rw [HE.out.1], by rw [HE.out.2]; exact OwnI.nil _ _, (((((Below.refl _ _).alloc (Nat.le_refl _) _).alloc (by simp) _).alloc (by simp; omega) _).alloc (by simp; omega) _)⟩
  | true =>
    cases e1 : bigOk b1 zs1 with
    | false =>
      have HE := Lib.hid (bigSub_no (b0 := b0) (zs0 := zs0) (zs1 := zs1) (.inr e1))
      rw [e0] at K0
      rw [e1] at K1
      clear e0 e1
      obtain ⟨aa, ca, rfl, h1, h2, h3⟩ := ha
      clear h1 h2 h3
      obtain ⟨ab, cb, rfl, h4, h5, h6⟩ := hb
      clear h4 h5 h6
      go_enter Try.func27, Try.ntmps27
      go_wp2_with fail
      refine (K0.out _ ((((Below.refl _ _).alloc (Nat.le_refl _) _).alloc (by simp) _).alloc (by simp; omega) _)).mono ?_
      rintro e w' ⟨rfl, rfl⟩
      go_wp2_with fail
      refine (K1.out _ (((((Below.refl _ _).alloc (Nat.le_refl _) _).alloc (by simp) _).alloc (by simp; omega) _).alloc (by simp; omega) _)).mono ?_
      rintro e w' ⟨rfl, rfl⟩
      go_wp2
      exact bodyPost_ret (v := .agg #[.bool false, .slice none 0 0]) (by simp [results, Try.results27, go_sem]) rfl ⟨_, by rw [HE.out.1], by rw [HE.out.2]; exact OwnI.nil _ _, ((((((Below.refl _ _).alloc (Nat.le_refl _) _).alloc (by simp) _).alloc (by simp; omega) _).alloc (by simp; omega) _).alloc (by simp; omega) _)⟩
    | true =>
      obtain ⟨x, rfl, hx⟩ := okB_cases (bigOk_ok e0)
      obtain ⟨y, rfl, hy⟩ := okB_cases (bigOk_ok e1)
      have HE := Lib.hid (bigSub_yes e0 e1)
      have HX := Lib.hid ((nlen_le_iff _ _).2 hx)
      have RA := Lib.hid ha
      rw [e0] at K0
      have HY := Lib.hid ((nlen_le_iff _ _).2 hy)
      have RB := Lib.hid hb
      rw [e1] at K1
      have E0 := Lib.hid e0
      have E1 := Lib.hid e1
      obtain ⟨aa, ca, rfl, h1, h2, h3⟩ := ha
      clear h1 h2 h3
      obtain ⟨ab, cb, rfl, h4, h5, h6⟩ := hb
      clear h4 h5 h6
      rw [limI_length] at RA K0 ⊢
      rw [limI_length] at RB K1
      try rw [limI_length]
      obtain ⟨nx, hnx⟩ : ∃ n, nlen x = n := ⟨_, rfl⟩
      rw [hnx] at RA K0 HX ⊢
      obtain ⟨ny, hny⟩ : ∃ n, nlen y = n := ⟨_, rfl⟩
      rw [hny] at RB K1 HY
      try rw [hny]
      have NX := Lib.hid hnx
      clear hnx hx e0 hy e1
      have NY := Lib.hid hny
      clear hny
      rw [HE.out.1, HE.out.2]
      have NE := Lib.hid (bigNegL_eq E1.out)
      have NS := Lib.hid (sgSub_eq (b0 := b0) (x := x) E1.out)
      rw [← NS.out.1, ← NS.out.2]
      go_enter Try.func27, Try.ntmps27
      go_wp2_with fail
      refine (K0.out _ ((((Below.refl _ _).alloc (Nat.le_refl _) _).alloc (by simp) _).alloc (by simp; omega) _)).mono ?_
      rintro e w' ⟨rfl, rfl⟩
      go_wp2_with fail
      refine (K1.out _ (((((Below.refl _ _).alloc (Nat.le_refl _) _).alloc (by simp) _).alloc (by simp; omega) _).alloc (by simp; omega) _)).mono ?_
      rintro e w' ⟨rfl, rfl⟩
      go_wp2_with fail
      obtain ⟨W0, hW0⟩ : ∃ x, x = (((((w.alloc (.cells #[.bool b0, .slice aa nx ca] 27)).alloc (.cells #[.bool b1, .slice ab ny cb] 27)).alloc (.cells #[.bool false, .slice none 0 0] 27)).alloc (.cells #[.bool b0, .slice aa nx ca] 27)).alloc (.cells #[.bool b1, .slice ab ny cb] 27)) := ⟨_, rfl⟩
      have B := Lib.hid (show Below w.heap.size w W0 by rw [hW0]; exact ((((((Below.refl _ _).alloc (Nat.le_refl _) _).alloc (by simp) _).alloc (by simp; omega) _).alloc (by simp; omega) _).alloc (by simp; omega) _))
      have D_x := Lib.hid (bx_at (show Bx W0 _ 27 b0 (.slice aa nx ca) by rw [hW0]; exact ((((Bx.new _ _ _ _).alloc _).alloc _).alloc _).alloc _) (show w.heap.size = _ by simp))
      have D_y := Lib.hid (bx_at (show Bx W0 _ 27 b1 (.slice ab ny cb) by rw [hW0]; exact (((Bx.new _ _ _ _).alloc _).alloc _).alloc _) (show (w.heap.size + 1) = _ by simp))
      have D_r := Lib.hid (bx_at (show Bx W0 _ 27 false (.slice none 0 0) by rw [hW0]; exact ((Bx.new _ _ _ _).alloc _).alloc _) (show (w.heap.size + 1 + 1) = _ by simp))
      have SZ := Lib.hid (show W0.heap.size = w.heap.size + 1 + 1 + 1 + 1 + 1 by rw [hW0]; simp)
      rw [← hW0]
      clear hW0
      have c0_x := D_x.out.c0
      have c1_x := D_x.out.c1
      have c0_y := D_y.out.c0
      have c1_y := D_y.out.c1
      have c0_r := D_r.out.c0
      have c1_r := D_r.out.c1
      have f0_r := D_r.out.f0
      have f1_r := D_r.out.f1
      have lt_x := D_x.out.lt
      have lt_y := D_y.out.lt
      have lt_r := D_r.out.lt
      go_region_held3 (fun w' => w'.cell? ⟨w.heap.size, 0, none⟩ = some (.bool b0) ∧ w'.cell? ⟨w.heap.size, 1, none⟩ = some ((.slice aa nx ca)) ∧ w'.cell? ⟨(w.heap.size + 1), 0, none⟩ = some (.bool b1) ∧ w'.cell? ⟨(w.heap.size + 1), 1, none⟩ = some ((.slice ab ny cb))) (first | exact ⟨d2_0_x, d2_1_x, d2_0_y, d2_1_y⟩ | exact ⟨d1_0_x, d1_1_x, d1_0_y, d1_1_y⟩ | exact ⟨(cell_far (by omega) _ _).trans d2_0_x, (cell_far (by omega) _ _).trans d2_1_x, (cell_far (by omega) _ _).trans d2_0_y, (cell_far (by omega) _ _).trans d2_1_y⟩ | exact ⟨c0_x, c1_x, c0_y, c1_y⟩)
        (first
          | (have := bb1; go_at_call 48; refine (spec_addBig b0 _ x (bigNegB b1 (limI y)) _ y _ (rowOf_below RA.out (B.out.trans (Below.mono bb1 B.out.size))) (row_cast o_q.row NE.out) (by have := HX.out; have := NX.out; omega) (by have := HY.out; have := NY.out; omega)).mono ?_; rintro e w2 ⟨v_r0, rfl, o_r0, bw2⟩; obtain ⟨a_r0, c_r0, rfl⟩ := o_r0.slice; have bb2 : Below W0.heap.size W0 w2 := bb1.trans (bw2.mono bb1.size); have d2_0_x := (bb2.cell (p := ⟨w.heap.size, 0, none⟩) lt_x).trans c0_x; have d2_1_x := (bb2.cell (p := ⟨w.heap.size, 1, none⟩) lt_x).trans c1_x; have d2_0_y := (bb2.cell (p := ⟨(w.heap.size + 1), 0, none⟩) lt_y).trans c0_y; have d2_1_y := (bb2.cell (p := ⟨(w.heap.size + 1), 1, none⟩) lt_y).trans c1_y; have d2_0_r := (bb2.cell (p := ⟨(w.heap.size + 1 + 1), 0, none⟩) lt_r).trans c0_r; have d2_1_r := (bb2.cell (p := ⟨(w.heap.size + 1 + 1), 1, none⟩) lt_r).trans c1_r; have e2_0_r := (bb2.frozen (p := ⟨(w.heap.size + 1 + 1), 0, none⟩) lt_r).trans f0_r; have e2_1_r := (bb2.frozen (p := ⟨(w.heap.size + 1 + 1), 1, none⟩) lt_r).trans f1_r)
          | (go_at_call 23; refine (spec_bigNeg b1 _ _ _ (rowOf_below RB.out (B.out.trans (Below.mono (by first | exact Below.refl _ _ | exact (Below.refl _ _).drew) B.out.size)))).mono ?_; rintro e w1 ⟨v_q, rfl, o_q, bw1⟩; obtain ⟨a_q, c_q, rfl⟩ := o_q.slice; have bb1 : Below W0.heap.size W0 w1 := (by first | exact bw1 | exact ((Below.refl _ _).drew).trans bw1); have d1_0_x := (bb1.cell (p := ⟨w.heap.size, 0, none⟩) lt_x).trans c0_x; have d1_1_x := (bb1.cell (p := ⟨w.heap.size, 1, none⟩) lt_x).trans c1_x; have d1_0_y := (bb1.cell (p := ⟨(w.heap.size + 1), 0, none⟩) lt_y).trans c0_y; have d1_1_y := (bb1.cell (p := ⟨(w.heap.size + 1), 1, none⟩) lt_y).trans c1_y; have d1_0_r := (bb1.cell (p := ⟨(w.heap.size + 1 + 1), 0, none⟩) lt_r).trans c0_r; have d1_1_r := (bb1.cell (p := ⟨(w.heap.size + 1 + 1), 1, none⟩) lt_r).trans c1_r; have e1_0_r := (bb1.frozen (p := ⟨(w.heap.size + 1 + 1), 0, none⟩) lt_r).trans f0_r; have e1_1_r := (bb1.frozen (p := ⟨(w.heap.size + 1 + 1), 1, none⟩) lt_r).trans f1_r))
      clear bw1
      have bw1 := bb1
      replace o_q : OwnI w1 W0.heap.size _ _ := o_q
      replace D_x := Lib.hid (D_x.out.below bw1)
      replace D_y := Lib.hid (D_y.out.below bw1)
      replace D_r := Lib.hid (D_r.out.below bw1)
      have Z1 := Lib.hid bw1.size
      replace B := Lib.hid (B.out.trans (bw1.mono B.out.size))
      have O_q := Lib.hid o_q
      clear o_q
      clear bw1
      replace O_q := Lib.hid (O_q.out.below bw2)
      replace D_x := Lib.hid (D_x.out.below bw2)
      replace D_y := Lib.hid (D_y.out.below bw2)
      replace D_r := Lib.hid (D_r.out.below bw2)
      have Z2 := Lib.hid bw2.size
      replace B := Lib.hid (B.out.trans (bw2.mono B.out.size))
      have O_r0 := Lib.hid o_r0
      clear o_r0
      clear bw2
      clear bb1 bb2
      clear c0_x c1_x
      clear c0_y c1_y
      clear lt_x
      clear lt_y
      clear lt_r
      clear c0_r c1_r f0_r f1_r
      have c0_r := D_r.out.c0
      have c1_r := D_r.out.c1
      have f0_r := D_r.out.f0
      have f1_r := D_r.out.f1
      go_wp2
      obtain ⟨e1, e2⟩ := big_end (p := (w.heap.size + 1 + 1)) B.out O_r0.out (by have := SZ.out; have := Z1.out; have := Z2.out; omega) (by have := SZ.out; have := Z1.out; have := Z2.out; omega) (by omega) (.bool (sgB (sgAddB b0 x (bigNegB b1 (limI y)) y) (capL (sgAddN b0 x (bigNegB b1 (limI y)) y)))) (.slice a_r0 (capL (sgAddN b0 x (bigNegB b1 (limI y)) y)).length c_r0)
      exact bodyPost_ret (v := .agg #[.bool (sgB (sgAddB b0 x (bigNegB b1 (limI y)) y) (capL (sgAddN b0 x (bigNegB b1 (limI y)) y))), .slice a_r0 (capL (sgAddN b0 x (bigNegB b1 (limI y)) y)).length c_r0]) (by simp [results, Try.results27, go_sem, c0_r, c1_r]) rfl ⟨_, rfl, e1, e2⟩

set_option maxHeartbeats 1000000 in
theorem spec_bigMul (b0 : Bool) (va : Value) (zs0 : List Int) (b1 : Bool) (vb : Value) (zs1 : List Int) (w : World) (ha : RowOf iV w va zs0) (hb : RowOf iV w vb zs1) :
    Calls Try.prog 29 #[.agg #[.bool b0, va], .agg #[.bool b1, vb]] w fun e w' => ∃ v, e = .returned (.agg #[.bool (bigMulB b0 zs0 b1 zs1), v]) ∧ OwnI w' w.heap.size v (bigMulL b0 zs0 b1 zs1) ∧ Below w.heap.size w w' := by
  have K0 := Lib.hid (fun W (hW : Below w.heap.size w W) => spec_bigOk b0 va zs0 W (rowOf_below ha hW))
  have K1 := Lib.hid (fun W (hW : Below w.heap.size w W) => spec_bigOk b1 vb zs1 W (rowOf_below hb hW))
  cases e0 : bigOk b0 zs0 with
  | false =>
    have HE := Lib.hid (bigMul_no (zs0 := zs0) (b1 := b1) (zs1 := zs1) (.inl e0))
    rw [e0] at K0
    clear e0
    obtain ⟨aa, ca, rfl, h1, h2, h3⟩ := ha
    clear h1 h2 h3
    obtain ⟨ab, cb, rfl, h4, h5, h6⟩ := hb
    clear h4 h5 h6
    go_enter Try.func29, Try.ntmps29
    go_wp2_with (go_at_call 13; refine (K0.out _ ((((Below.refl _ _).alloc (Nat.le_refl _) _).alloc (by simp) _).alloc (by simp; omega) _)).mono ?_; rintro e w' ⟨rfl, rfl⟩)
    exact bodyPost_ret (v := .agg #[.bool false, .slice none 0 0]) (by simp [results, Try.results29, go_sem]) rfl ⟨_, by rw [HE.out.1], by rw [HE.out.2]; exact OwnI.nil _ _, (((((Below.refl _ _).alloc (Nat.le_refl _) _).alloc (by simp) _).alloc (by simp; omega) _).alloc (by simp; omega) _)⟩
  | true =>
    cases e1 : bigOk b1 zs1 with
    | false =>
      have HE := Lib.hid (bigMul_no (b0 := b0) (zs0 := zs0) (zs1 := zs1) (.inr e1))
      rw [e0] at K0
      rw [e1] at K1
      clear e0 e1
      obtain ⟨aa, ca, rfl, h1, h2, h3⟩ := ha
      clear h1 h2 h3
      obtain ⟨ab, cb, rfl, h4, h5, h6⟩ := hb
      clear h4 h5 h6
      go_enter Try.func29, Try.ntmps29
      go_wp2_with fail
      refine (K0.out _ ((((Below.refl _ _).alloc (Nat.le_refl _) _).alloc (by simp) _).alloc (by simp; omega) _)).mono ?_
      rintro e w' ⟨rfl, rfl⟩
      go_wp2_with fail
      refine (K1.out _ (((((Below.refl _ _).alloc (Nat.le_refl _) _).alloc (by simp) _).alloc (by simp; omega) _).alloc (by simp; omega) _)).mono ?_
      rintro e w' ⟨rfl, rfl⟩
      go_wp2
      exact bodyPost_ret (v := .agg #[.bool false, .slice none 0 0]) (by simp [results, Try.results29, go_sem]) rfl ⟨_, by rw [HE.out.1], by rw [HE.out.2]; exact OwnI.nil _ _, ((((((Below.refl _ _).alloc (Nat.le_refl _) _).alloc (by simp) _).alloc (by simp; omega) _).alloc (by simp; omega) _).alloc (by simp; omega) _)⟩
    | true =>
      obtain ⟨x, rfl, hx⟩ := okB_cases (bigOk_ok e0)
      obtain ⟨y, rfl, hy⟩ := okB_cases (bigOk_ok e1)
      have HE := Lib.hid (bigMul_yes e0 e1)
      have HX := Lib.hid ((nlen_le_iff _ _).2 hx)
      have RA := Lib.hid ha
      rw [e0] at K0
      have HY := Lib.hid ((nlen_le_iff _ _).2 hy)
      have RB := Lib.hid hb
      rw [e1] at K1
      have E0 := Lib.hid e0
      have E1 := Lib.hid e1
      obtain ⟨aa, ca, rfl, h1, h2, h3⟩ := ha
      clear h1 h2 h3
      obtain ⟨ab, cb, rfl, h4, h5, h6⟩ := hb
      clear h4 h5 h6
      rw [limI_length] at RA K0 ⊢
      rw [limI_length] at RB K1
      try rw [limI_length]
      obtain ⟨nx, hnx⟩ : ∃ n, nlen x = n := ⟨_, rfl⟩
      rw [hnx] at RA K0 HX ⊢
      obtain ⟨ny, hny⟩ : ∃ n, nlen y = n := ⟨_, rfl⟩
      rw [hny] at RB K1 HY
      try rw [hny]
      have NX := Lib.hid hnx
      clear hnx hx e0 hy e1
      have NY := Lib.hid hny
      clear hny
      rw [HE.out.1, HE.out.2]
      go_enter Try.func29, Try.ntmps29
      go_wp2_with fail
      refine (K0.out _ ((((Below.refl _ _).alloc (Nat.le_refl _) _).alloc (by simp) _).alloc (by simp; omega) _)).mono ?_
      rintro e w' ⟨rfl, rfl⟩
      go_wp2_with fail
      refine (K1.out _ (((((Below.refl _ _).alloc (Nat.le_refl _) _).alloc (by simp) _).alloc (by simp; omega) _).alloc (by simp; omega) _)).mono ?_
      rintro e w' ⟨rfl, rfl⟩
      go_wp2_with fail
      obtain ⟨W0, hW0⟩ : ∃ x, x = (((((w.alloc (.cells #[.bool b0, .slice aa nx ca] 27)).alloc (.cells #[.bool b1, .slice ab ny cb] 27)).alloc (.cells #[.bool false, .slice none 0 0] 27)).alloc (.cells #[.bool b0, .slice aa nx ca] 27)).alloc (.cells #[.bool b1, .slice ab ny cb] 27)) := ⟨_, rfl⟩
      have B := Lib.hid (show Below w.heap.size w W0 by rw [hW0]; exact ((((((Below.refl _ _).alloc (Nat.le_refl _) _).alloc (by simp) _).alloc (by simp; omega) _).alloc (by simp; omega) _).alloc (by simp; omega) _))
      have D_x := Lib.hid (bx_at (show Bx W0 _ 27 b0 (.slice aa nx ca) by rw [hW0]; exact ((((Bx.new _ _ _ _).alloc _).alloc _).alloc _).alloc _) (show w.heap.size = _ by simp))
      have D_y := Lib.hid (bx_at (show Bx W0 _ 27 b1 (.slice ab ny cb) by rw [hW0]; exact (((Bx.new _ _ _ _).alloc _).alloc _).alloc _) (show (w.heap.size + 1) = _ by simp))
      have D_r := Lib.hid (bx_at (show Bx W0 _ 27 false (.slice none 0 0) by rw [hW0]; exact ((Bx.new _ _ _ _).alloc _).alloc _) (show (w.heap.size + 1 + 1) = _ by simp))
      have SZ := Lib.hid (show W0.heap.size = w.heap.size + 1 + 1 + 1 + 1 + 1 by rw [hW0]; simp)
      rw [← hW0]
      clear hW0
      have c0_x := D_x.out.c0
      have c1_x := D_x.out.c1
      have c0_y := D_y.out.c0
      have c1_y := D_y.out.c1
      have c0_r := D_r.out.c0
      have c1_r := D_r.out.c1
      have f0_r := D_r.out.f0
      have f1_r := D_r.out.f1
      have lt_x := D_x.out.lt
      have lt_y := D_y.out.lt
      have lt_r := D_r.out.lt
      go_region_held3 (fun w' => w'.cell? ⟨w.heap.size, 0, none⟩ = some (.bool b0) ∧ w'.cell? ⟨w.heap.size, 1, none⟩ = some ((.slice aa nx ca)) ∧ w'.cell? ⟨(w.heap.size + 1), 0, none⟩ = some (.bool b1) ∧ w'.cell? ⟨(w.heap.size + 1), 1, none⟩ = some ((.slice ab ny cb))) (first | exact ⟨d2_0_x, d2_1_x, d2_0_y, d2_1_y⟩ | exact ⟨d1_0_x, d1_1_x, d1_0_y, d1_1_y⟩ | exact ⟨(cell_far (by omega) _ _).trans d2_0_x, (cell_far (by omega) _ _).trans d2_1_x, (cell_far (by omega) _ _).trans d2_0_y, (cell_far (by omega) _ _).trans d2_1_y⟩ | exact ⟨c0_x, c1_x, c0_y, c1_y⟩)
        (first
          | (have := bb1; go_at_call 42; refine (spec_make (!(b0 == b1)) _ (x * y) _ _ (row_limF o_q.row) (Nat.le_refl _)).mono ?_; rintro e w2 ⟨v_r0, rfl, o_r0, bw2⟩; obtain ⟨a_r0, c_r0, rfl⟩ := o_r0.slice; have bb2 : Below W0.heap.size W0 w2 := bb1.trans (bw2.mono bb1.size); have d2_0_x := (bb2.cell (p := ⟨w.heap.size, 0, none⟩) lt_x).trans c0_x; have d2_1_x := (bb2.cell (p := ⟨w.heap.size, 1, none⟩) lt_x).trans c1_x; have d2_0_y := (bb2.cell (p := ⟨(w.heap.size + 1), 0, none⟩) lt_y).trans c0_y; have d2_1_y := (bb2.cell (p := ⟨(w.heap.size + 1), 1, none⟩) lt_y).trans c1_y; have d2_0_r := (bb2.cell (p := ⟨(w.heap.size + 1 + 1), 0, none⟩) lt_r).trans c0_r; have d2_1_r := (bb2.cell (p := ⟨(w.heap.size + 1 + 1), 1, none⟩) lt_r).trans c1_r; have e2_0_r := (bb2.frozen (p := ⟨(w.heap.size + 1 + 1), 0, none⟩) lt_r).trans f0_r; have e2_1_r := (bb2.frozen (p := ⟨(w.heap.size + 1 + 1), 1, none⟩) lt_r).trans f1_r)
          | (go_at_call 50; refine (spec_mulAny _ _ x y _ (rowOf_below RA.out (B.out.trans (Below.mono (by first | exact Below.refl _ _ | exact (Below.refl _ _).drew) B.out.size))) (rowOf_below RB.out (B.out.trans (Below.mono (by first | exact Below.refl _ _ | exact (Below.refl _ _).drew) B.out.size))) (by have := HX.out; have := NX.out; omega) (by have := HY.out; have := NY.out; omega)).mono ?_; rintro e w1 ⟨v_q, rfl, o_q, bw1⟩; obtain ⟨a_q, c_q, rfl⟩ := o_q.slice; have bb1 : Below W0.heap.size W0 w1 := (by first | exact bw1 | exact ((Below.refl _ _).drew).trans bw1); have d1_0_x := (bb1.cell (p := ⟨w.heap.size, 0, none⟩) lt_x).trans c0_x; have d1_1_x := (bb1.cell (p := ⟨w.heap.size, 1, none⟩) lt_x).trans c1_x; have d1_0_y := (bb1.cell (p := ⟨(w.heap.size + 1), 0, none⟩) lt_y).trans c0_y; have d1_1_y := (bb1.cell (p := ⟨(w.heap.size + 1), 1, none⟩) lt_y).trans c1_y; have d1_0_r := (bb1.cell (p := ⟨(w.heap.size + 1 + 1), 0, none⟩) lt_r).trans c0_r; have d1_1_r := (bb1.cell (p := ⟨(w.heap.size + 1 + 1), 1, none⟩) lt_r).trans c1_r; have e1_0_r := (bb1.frozen (p := ⟨(w.heap.size + 1 + 1), 0, none⟩) lt_r).trans f0_r; have e1_1_r := (bb1.frozen (p := ⟨(w.heap.size + 1 + 1), 1, none⟩) lt_r).trans f1_r))
      clear bw1
      have bw1 := bb1
      replace o_q : OwnI w1 W0.heap.size _ _ := o_q
      replace D_x := Lib.hid (D_x.out.below bw1)
      replace D_y := Lib.hid (D_y.out.below bw1)
      replace D_r := Lib.hid (D_r.out.below bw1)
      have Z1 := Lib.hid bw1.size
      replace B := Lib.hid (B.out.trans (bw1.mono B.out.size))
      have O_q := Lib.hid o_q
      clear o_q
      clear bw1
      replace O_q := Lib.hid (O_q.out.below bw2)
      replace D_x := Lib.hid (D_x.out.below bw2)
      replace D_y := Lib.hid (D_y.out.below bw2)
      replace D_r := Lib.hid (D_r.out.below bw2)
      have Z2 := Lib.hid bw2.size
      replace B := Lib.hid (B.out.trans (bw2.mono B.out.size))
      have O_r0 := Lib.hid o_r0
      clear o_r0
      clear bw2
      clear bb1 bb2
      clear c0_x c1_x
      clear c0_y c1_y
      clear lt_x
      clear lt_y
      clear lt_r
      clear c0_r c1_r f0_r f1_r
      have c0_r := D_r.out.c0
      have c1_r := D_r.out.c1
      have f0_r := D_r.out.f0
      have f1_r := D_r.out.f1
      go_wp2
      obtain ⟨e1, e2⟩ := big_end (p := (w.heap.size + 1 + 1)) B.out O_r0.out (by have := SZ.out; have := Z1.out; have := Z2.out; omega) (by have := SZ.out; have := Z1.out; have := Z2.out; omega) (by omega) (.bool (sgB (!(b0 == b1)) (capL (x * y)))) (.slice a_r0 (capL (x * y)).length c_r0)
      exact bodyPost_ret (v := .agg #[.bool (sgB (!(b0 == b1)) (capL (x * y))), .slice a_r0 (capL (x * y)).length c_r0]) (by simp [results, Try.results29, go_sem, c0_r, c1_r]) rfl ⟨_, rfl, e1, e2⟩

set_option maxHeartbeats 1000000 in
theorem impl_bigMul (b0 : Bool) (va : Value) (zs0 : List Int) (b1 : Bool) (vb : Value) (zs1 : List Int) (w : World) (ha : RowOf iV w va zs0) (hb : RowOf iV w vb zs1) :
    Calls Try.prog 30 #[.agg #[.bool b0, va], .agg #[.bool b1, vb]] w fun e w' => ∃ v, e = .returned (.agg #[.bool (bigMulB b0 zs0 b1 zs1), v]) ∧ OwnI w' w.heap.size v (bigMulL b0 zs0 b1 zs1) ∧ Below w.heap.size w w' := by
  have K0 := Lib.hid (fun W (hW : Below w.heap.size w W) => impl_bigOk b0 va zs0 W (rowOf_below ha hW))
  have K1 := Lib.hid (fun W (hW : Below w.heap.size w W) => impl_bigOk b1 vb zs1 W (rowOf_below hb hW))
  cases e0 : bigOk b0 zs0 with
  | false =>
    have HE := Lib.hid (bigMul_no (zs0 := zs0) (b1 := b1) (zs1 := zs1) (.inl e0))
    rw [e0] at K0
    clear e0
    obtain ⟨aa, ca, rfl, h1, h2, h3⟩ := ha
    clear h1 h2 h3
    obtain ⟨ab, cb, rfl, h4, h5, h6⟩ := hb
    clear h4 h5 h6
    go_enter Try.func30, Try.ntmps30
    go_wp2_with (go_at_call 15; refine (K0.out _ ((((Below.refl _ _).alloc (Nat.le_refl _) _).alloc (by simp) _).alloc (by simp; omega) _)).mono ?_; rintro e w' ⟨rfl, rfl⟩)
    exact bodyPost_ret (v := .agg #[.bool false, .slice none 0 0]) (by simp [results, Try.results30, go_sem]) rfl ⟨_, by rw [HE.out.1], by rw [HE.out.2]; exact OwnI.nil _ _, (((((Below.refl _ _).alloc (Nat.le_refl _) _).alloc (by simp) _).alloc (by simp; omega) _).alloc (by simp; omega) _)⟩
  | true =>
    cases e1 : bigOk b1 zs1 with
    | false =>
      have HE := Lib.hid (bigMul_no (b0 := b0) (zs0 := zs0) (zs1 := zs1) (.inr e1))
      rw [e0] at K0
      rw [e1] at K1
      clear e0 e1
      obtain ⟨aa, ca, rfl, h1, h2, h3⟩ := ha
      clear h1 h2 h3
      obtain ⟨ab, cb, rfl, h4, h5, h6⟩ := hb
      clear h4 h5 h6
      go_enter Try.func30, Try.ntmps30
      go_wp2_with fail
      refine (K0.out _ ((((Below.refl _ _).alloc (Nat.le_refl _) _).alloc (by simp) _).alloc (by simp; omega) _)).mono ?_
      rintro e w' ⟨rfl, rfl⟩
      go_wp2_with fail
      refine (K1.out _ (((((Below.refl _ _).alloc (Nat.le_refl _) _).alloc (by simp) _).alloc (by simp; omega) _).alloc (by simp; omega) _)).mono ?_
      rintro e w' ⟨rfl, rfl⟩
      go_wp2
      exact bodyPost_ret (v := .agg #[.bool false, .slice none 0 0]) (by simp [results, Try.results30, go_sem]) rfl ⟨_, by rw [HE.out.1], by rw [HE.out.2]; exact OwnI.nil _ _, ((((((Below.refl _ _).alloc (Nat.le_refl _) _).alloc (by simp) _).alloc (by simp; omega) _).alloc (by simp; omega) _).alloc (by simp; omega) _)⟩
    | true =>
      obtain ⟨x, rfl, hx⟩ := okB_cases (bigOk_ok e0)
      obtain ⟨y, rfl, hy⟩ := okB_cases (bigOk_ok e1)
      have HE := Lib.hid (bigMul_yes e0 e1)
      have HX := Lib.hid ((nlen_le_iff _ _).2 hx)
      have RA := Lib.hid ha
      rw [e0] at K0
      have HY := Lib.hid ((nlen_le_iff _ _).2 hy)
      have RB := Lib.hid hb
      rw [e1] at K1
      have E0 := Lib.hid e0
      have E1 := Lib.hid e1
      obtain ⟨aa, ca, rfl, h1, h2, h3⟩ := ha
      clear h1 h2 h3
      obtain ⟨ab, cb, rfl, h4, h5, h6⟩ := hb
      clear h4 h5 h6
      rw [limI_length] at RA K0 ⊢
      rw [limI_length] at RB K1
      try rw [limI_length]
      obtain ⟨nx, hnx⟩ : ∃ n, nlen x = n := ⟨_, rfl⟩
      rw [hnx] at RA K0 HX ⊢
      obtain ⟨ny, hny⟩ : ∃ n, nlen y = n := ⟨_, rfl⟩
      rw [hny] at RB K1 HY
      try rw [hny]
      have NX := Lib.hid hnx
      clear hnx hx e0 hy e1
      have NY := Lib.hid hny
      clear hny
      rw [HE.out.1, HE.out.2]
      go_enter Try.func30, Try.ntmps30
      go_wp2_with fail
      refine (K0.out _ ((((Below.refl _ _).alloc (Nat.le_refl _) _).alloc (by simp) _).alloc (by simp; omega) _)).mono ?_
      rintro e w' ⟨rfl, rfl⟩
      go_wp2_with fail
      refine (K1.out _ (((((Below.refl _ _).alloc (Nat.le_refl _) _).alloc (by simp) _).alloc (by simp; omega) _).alloc (by simp; omega) _)).mono ?_
      rintro e w' ⟨rfl, rfl⟩
      go_wp2_with fail
      obtain ⟨W0, hW0⟩ : ∃ x, x = (((((w.alloc (.cells #[.bool b0, .slice aa nx ca] 27)).alloc (.cells #[.bool b1, .slice ab ny cb] 27)).alloc (.cells #[.bool false, .slice none 0 0] 27)).alloc (.cells #[.bool b0, .slice aa nx ca] 27)).alloc (.cells #[.bool b1, .slice ab ny cb] 27)) := ⟨_, rfl⟩
      have B := Lib.hid (show Below w.heap.size w W0 by rw [hW0]; exact ((((((Below.refl _ _).alloc (Nat.le_refl _) _).alloc (by simp) _).alloc (by simp; omega) _).alloc (by simp; omega) _).alloc (by simp; omega) _))
      have D_x := Lib.hid (bx_at (show Bx W0 _ 27 b0 (.slice aa nx ca) by rw [hW0]; exact ((((Bx.new _ _ _ _).alloc _).alloc _).alloc _).alloc _) (show w.heap.size = _ by simp))
      have D_y := Lib.hid (bx_at (show Bx W0 _ 27 b1 (.slice ab ny cb) by rw [hW0]; exact (((Bx.new _ _ _ _).alloc _).alloc _).alloc _) (show (w.heap.size + 1) = _ by simp))
      have D_r := Lib.hid (bx_at (show Bx W0 _ 27 false (.slice none 0 0) by rw [hW0]; exact ((Bx.new _ _ _ _).alloc _).alloc _) (show (w.heap.size + 1 + 1) = _ by simp))
      have SZ := Lib.hid (show W0.heap.size = w.heap.size + 1 + 1 + 1 + 1 + 1 by rw [hW0]; simp)
      rw [← hW0]
      clear hW0
      have c0_x := D_x.out.c0
      have c1_x := D_x.out.c1
      have c0_y := D_y.out.c0
      have c1_y := D_y.out.c1
      have c0_r := D_r.out.c0
      have c1_r := D_r.out.c1
      have f0_r := D_r.out.f0
      have f1_r := D_r.out.f1
      have lt_x := D_x.out.lt
      have lt_y := D_y.out.lt
      have lt_r := D_r.out.lt
      go_region_held3 (fun w' => w'.cell? ⟨w.heap.size, 0, none⟩ = some (.bool b0) ∧ w'.cell? ⟨w.heap.size, 1, none⟩ = some ((.slice aa nx ca)) ∧ w'.cell? ⟨(w.heap.size + 1), 0, none⟩ = some (.bool b1) ∧ w'.cell? ⟨(w.heap.size + 1), 1, none⟩ = some ((.slice ab ny cb))) (first | exact ⟨d2_0_x, d2_1_x, d2_0_y, d2_1_y⟩ | exact ⟨d1_0_x, d1_1_x, d1_0_y, d1_1_y⟩ | exact ⟨(cell_far (by omega) _ _).trans d2_0_x, (cell_far (by omega) _ _).trans d2_1_x, (cell_far (by omega) _ _).trans d2_0_y, (cell_far (by omega) _ _).trans d2_1_y⟩ | exact ⟨c0_x, c1_x, c0_y, c1_y⟩)
        (first
          | (have := bb1; go_at_call 44; refine (impl_withSign (!(b0 == b1)) _ (x * y) _ o_q.row).mono ?_; rintro e w2 ⟨v_r0, rfl, o_r0, bw2⟩; obtain ⟨a_r0, c_r0, rfl⟩ := o_r0.slice; have bb2 : Below W0.heap.size W0 w2 := bb1.trans (bw2.mono bb1.size); have d2_0_x := (bb2.cell (p := ⟨w.heap.size, 0, none⟩) lt_x).trans c0_x; have d2_1_x := (bb2.cell (p := ⟨w.heap.size, 1, none⟩) lt_x).trans c1_x; have d2_0_y := (bb2.cell (p := ⟨(w.heap.size + 1), 0, none⟩) lt_y).trans c0_y; have d2_1_y := (bb2.cell (p := ⟨(w.heap.size + 1), 1, none⟩) lt_y).trans c1_y; have d2_0_r := (bb2.cell (p := ⟨(w.heap.size + 1 + 1), 0, none⟩) lt_r).trans c0_r; have d2_1_r := (bb2.cell (p := ⟨(w.heap.size + 1 + 1), 1, none⟩) lt_r).trans c1_r; have e2_0_r := (bb2.frozen (p := ⟨(w.heap.size + 1 + 1), 0, none⟩) lt_r).trans f0_r; have e2_1_r := (bb2.frozen (p := ⟨(w.heap.size + 1 + 1), 1, none⟩) lt_r).trans f1_r)
          | (go_at_call 51; refine (impl_times _ _ x y _ (rowOf_below RA.out (B.out.trans (Below.mono (by first | exact Below.refl _ _ | exact (Below.refl _ _).drew) B.out.size))) (rowOf_below RB.out (B.out.trans (Below.mono (by first | exact Below.refl _ _ | exact (Below.refl _ _).drew) B.out.size))) (by have := HX.out; have := NX.out; omega) (by have := HY.out; have := NY.out; omega)).mono ?_; rintro e w1 ⟨v_q, rfl, o_q, bw1⟩; obtain ⟨a_q, c_q, rfl⟩ := o_q.slice; have bb1 : Below W0.heap.size W0 w1 := (by first | exact bw1 | exact ((Below.refl _ _).drew).trans bw1); have d1_0_x := (bb1.cell (p := ⟨w.heap.size, 0, none⟩) lt_x).trans c0_x; have d1_1_x := (bb1.cell (p := ⟨w.heap.size, 1, none⟩) lt_x).trans c1_x; have d1_0_y := (bb1.cell (p := ⟨(w.heap.size + 1), 0, none⟩) lt_y).trans c0_y; have d1_1_y := (bb1.cell (p := ⟨(w.heap.size + 1), 1, none⟩) lt_y).trans c1_y; have d1_0_r := (bb1.cell (p := ⟨(w.heap.size + 1 + 1), 0, none⟩) lt_r).trans c0_r; have d1_1_r := (bb1.cell (p := ⟨(w.heap.size + 1 + 1), 1, none⟩) lt_r).trans c1_r; have e1_0_r := (bb1.frozen (p := ⟨(w.heap.size + 1 + 1), 0, none⟩) lt_r).trans f0_r; have e1_1_r := (bb1.frozen (p := ⟨(w.heap.size + 1 + 1), 1, none⟩) lt_r).trans f1_r))
      clear bw1
      have bw1 := bb1
      replace o_q : OwnI w1 W0.heap.size _ _ := o_q
      replace D_x := Lib.hid (D_x.out.below bw1)
      replace D_y := Lib.hid (D_y.out.below bw1)
      replace D_r := Lib.hid (D_r.out.below bw1)
      have Z1 := Lib.hid bw1.size
      replace B := Lib.hid (B.out.trans (bw1.mono B.out.size))
      have O_q := Lib.hid o_q
      clear o_q
      clear bw1
      replace O_q := Lib.hid (O_q.out.below bw2)
      replace D_x := Lib.hid (D_x.out.below bw2)
      replace D_y := Lib.hid (D_y.out.below bw2)
      replace D_r := Lib.hid (D_r.out.below bw2)
      have Z2 := Lib.hid bw2.size
      replace B := Lib.hid (B.out.trans (bw2.mono B.out.size))
      have O_r0 := Lib.hid o_r0
      clear o_r0
      clear bw2
      clear bb1 bb2
      clear c0_x c1_x
      clear c0_y c1_y
      clear lt_x
      clear lt_y
      clear lt_r
      clear c0_r c1_r f0_r f1_r
      have c0_r := D_r.out.c0
      have c1_r := D_r.out.c1
      have f0_r := D_r.out.f0
      have f1_r := D_r.out.f1
      go_wp2
      obtain ⟨e1, e2⟩ := big_end (p := (w.heap.size + 1 + 1)) B.out O_r0.out (by have := SZ.out; have := Z1.out; have := Z2.out; omega) (by have := SZ.out; have := Z1.out; have := Z2.out; omega) (by omega) (.bool (sgB (!(b0 == b1)) (capL (x * y)))) (.slice a_r0 (capL (x * y)).length c_r0)
      exact bodyPost_ret (v := .agg #[.bool (sgB (!(b0 == b1)) (capL (x * y))), .slice a_r0 (capL (x * y)).length c_r0]) (by simp [results, Try.results30, go_sem, c0_r, c1_r]) rfl ⟨_, rfl, e1, e2⟩

end Go.Proofs.Ytofmpfcbdemcnaa
