/- What fractions are made of: the tests for 1, the common divisor, the quotient, what is too long; a copy of a row. -/
import Derived.Test.YtlepgkkpopjgoaaGreatZRat
import Derived.Test.YtlepgkkpopjgoaaGreatZDivisor
import Derived.Test.YtlepgkkpopjgoaaGreatZSigned
namespace Go.Proofs.YtlepgkkpopjgoaaGreat
open Go.RowKit Go.WideShapes Go.ChangeShapes
set_option linter.unusedVariables false
set_option linter.unusedSimpArgs false

theorem one_iff (x : Nat) : (x = 1) ↔ (nlen x = 1 ∧ dig x 0 = 1) := by
  constructor
  · rintro rfl
    exact ⟨nlen_eq (k := 0) (by decide) (by decide), by decide⟩
  · rintro ⟨h1, h2⟩
    have := (one_limb h1).1
    omega
theorem limI_1 : limI 1 = [1] := by
  have h : nlen 1 = 1 := ((one_iff 1).1 rfl).1
  unfold limI
  rw [h]
  rfl

set_option maxHeartbeats 400000 in
theorem impl_isOne (v : Value) (x : Nat) (w : World) (h : RowOf iV w v (limI x)) :
    Calls Tryz.prog 109 #[v] w fun e w' => e = .returned (.bool (decide (x = 1))) ∧ w' = w := by
  have R := Lib.hid h
  obtain ⟨a, c, rfl, h1, h2, h3⟩ := h
  clear h1 h2 h3
  rw [limI_length] at R ⊢
  by_cases hn : nlen x = 1
  · obtain ⟨b, o, rfl, hx⟩ := row_limb R.out (k := 0) (by omega)
    rw [Nat.add_zero] at hx
    have HV := Lib.hid (show (dig x 0 == 1) = decide (x = 1) by
      have := one_iff x
      by_cases h : x = 1
      · rw [decide_eq_true h]; simp [(this.1 h).2]
      · rw [decide_eq_false h]; simp; exact fun h' => h (this.2 ⟨hn, h'⟩))
    obtain ⟨d, hd⟩ : ∃ d, dig x 0 = d := ⟨_, rfl⟩
    rw [hd] at hx HV
    rw [← HV.out]
    clear hd
    rw [hn]
    go_enter Tryz.func109, Tryz.ntmps109
    go_wp2
    go_ret
    exact ⟨ret_bool (by first | rfl | (rw [Bool.eq_iff_iff]; simp; try omega)), rfl⟩
  · have hf : decide (x = 1) = false := decide_eq_false (fun h => hn ((one_iff x).1 h).1)
    rw [hf]
    have hn' : ((nlen x : Int) == 1) = false := by simp; omega
    obtain ⟨n, hnn⟩ : ∃ n, nlen x = n := ⟨_, rfl⟩
    rw [hnn] at hn hn' ⊢
    clear hnn hf
    go_enter Tryz.func109, Tryz.ntmps109
    go_wp2
    go_ret
    exact ⟨rfl, rfl⟩

set_option maxHeartbeats 400000 in
theorem spec_isOne (v : Value) (x : Nat) (w : World) (h : RowOf iV w v (limI x)) :
    Calls Tryz.prog 152 #[v] w fun e w' => e = .returned (.bool (decide (x = 1))) ∧ w' = w := by
  have R := Lib.hid h
  obtain ⟨a, c, rfl, h1, h2, h3⟩ := h
  clear h1 h2 h3
  rw [limI_length] at R ⊢
  by_cases hn : nlen x = 1
  · obtain ⟨b, o, rfl, hx⟩ := row_limb R.out (k := 0) (by omega)
    rw [Nat.add_zero] at hx
    have HV := Lib.hid (show (dig x 0 == 1) = decide (x = 1) by
      have := one_iff x
      by_cases h : x = 1
      · rw [decide_eq_true h]; simp [(this.1 h).2]
      · rw [decide_eq_false h]; simp; exact fun h' => h (this.2 ⟨hn, h'⟩))
    obtain ⟨d, hd⟩ : ∃ d, dig x 0 = d := ⟨_, rfl⟩
    rw [hd] at hx HV
    rw [← HV.out]
    clear hd
    rw [hn]
    go_enter Tryz.func152, Tryz.ntmps152
    go_wp2
    go_ret
    exact ⟨ret_bool (by first | rfl | (rw [Bool.eq_iff_iff]; simp; try omega)), rfl⟩
  · have hf : decide (x = 1) = false := decide_eq_false (fun h => hn ((one_iff x).1 h).1)
    rw [hf]
    have hn' : ((nlen x : Int) == 1) = false := by simp; omega
    obtain ⟨n, hnn⟩ : ∃ n, nlen x = n := ⟨_, rfl⟩
    rw [hnn] at hn hn' ⊢
    clear hnn hf
    go_enter Tryz.func152, Tryz.ntmps152
    go_wp2
    go_ret
    exact ⟨rfl, rfl⟩

set_option maxHeartbeats 400000 in
theorem impl_cloneI (v : Value) (x : Nat) (w : World) (h : RowOf iV w v (limI x)) (hx : nlen x ≤ 1000) :
    Calls Tryz.prog 118 #[v] w fun e w' => ∃ v', e = .returned v' ∧ OwnI w' w.heap.size v' (limI x) ∧ Below w.heap.size w w' := by
  have H := Lib.hid h
  obtain ⟨a, c, rfl, hc, hm, hr⟩ := h
  have hq := fun W : World => Lib.run_eql_slice_nil (P := Tryz.prog) W 30 3 a (limI x).length c 0 0 Tryz.underlying30
  cases a with
  | none =>
    have hl : limI x = [] := by
      cases hL : limI x with
      | nil => rfl
      | cons y r => obtain ⟨b, o, e, _⟩ := hr 0 (by rw [hL]; simp); cases e
    have HL := Lib.hid hl
    clear hl hr hc hm H
    simp only [Option.isNone_none] at hq
    go_enter Tryz.func118, Tryz.ntmps118
    go_wp2
    go_ret
    exact ⟨_, rfl, by rw [HL.out]; exact OwnI.nil _ _, Below.refl _ _⟩
  | some ad =>
    clear hr hc hm
    simp only [Option.isNone_some] at hq
    have hlen : ([] : List Int).length + (limI x).length ≤ 1099511627776 := by rw [limI_length]; simp; omega
    have HR := Lib.hid (fun o => rowOf_below H.out ((Below.refl w.heap.size w).alloc (Nat.le_refl _) o))
    go_enter Tryz.func118, Tryz.ntmps118
    go_wp2_with (at_builtin; refine append_ints rfl _ _ 30 Tryz.underlying30 rfl w.heap.size _ _ [] (limI x) rfl (OwnI.lit0 w) rfl (HR.out _) hlen (by simp) ?_; intro v' w1 h1 hg1)
    go_ret
    refine ⟨v', rfl, ?_, ((Below.refl _ w).alloc (Nat.le_refl _) _).grown hg1 (by simp) (fun k hk => ((OwnI.lit0 w).lt k hk).1)⟩
    rw [List.nil_append] at h1
    exact h1

theorem gcd_one_of {x y : Nat} (h : x = 1 ∨ y = 1) : Nat.gcd x y = 1 := by
  rcases h with rfl | rfl
  · exact Nat.gcd_one_left y
  · exact Nat.gcd_one_right x
set_option maxHeartbeats 1000000 in
theorem impl_common (va vb : Value) (x y : Nat) (w : World) (ha : RowOf iV w va (limI x)) (hb : RowOf iV w vb (limI y)) (hx : nlen x ≤ 60) (hy : nlen y ≤ 60) :
    Calls Tryz.prog 110 #[va, vb] w fun e w' => ∃ v, e = .returned v ∧ OwnI w' w.heap.size v (limI (Nat.gcd x y)) ∧ Below w.heap.size w w' := by
  have K0 := Lib.hid (impl_isOne va x w ha)
  have K1 := Lib.hid (impl_isOne vb y w hb)
  have G := Lib.hid (impl_gcd va vb x y w ha hb hx hy)
  by_cases h0 : x = 1
  · rw [gcd_one_of (.inl h0), limI_1]
    rw [decide_eq_true h0] at K0
    clear h0 hx hy G
    obtain ⟨aa, ca, rfl, h1, h2, h3⟩ := ha
    obtain ⟨ab, cb, rfl, h4, h5, h6⟩ := hb
    clear h1 h2 h3 h4 h5 h6
    go_enter Tryz.func110, Tryz.ntmps110
    go_wp2_with (go_at_call 109; refine K0.out.mono ?_; rintro e w' ⟨rfl, rfl⟩)
    go_ret
    exact ⟨_, rfl, OwnI.lit1 _ _ 1 (Nat.le_refl _), (Below.refl _ _).alloc (Nat.le_refl _) _⟩
  · rw [decide_eq_false h0] at K0
    by_cases h9 : y = 1
    · rw [gcd_one_of (.inr h9), limI_1]
      rw [decide_eq_true h9] at K1
      clear h0 h9 hx hy G
      obtain ⟨aa, ca, rfl, h1, h2, h3⟩ := ha
      obtain ⟨ab, cb, rfl, h4, h5, h6⟩ := hb
      clear h1 h2 h3 h4 h5 h6
      go_enter Tryz.func110, Tryz.ntmps110
      go_wp2_with fail
      refine K0.out.mono ?_
      rintro e w' ⟨rfl, rfl⟩
      go_wp2_with fail
      refine K1.out.mono ?_
      rintro e w' ⟨rfl, rfl⟩
      go_wp2
      go_ret
      exact ⟨_, rfl, OwnI.lit1 _ _ 1 (Nat.le_refl _), (Below.refl _ _).alloc (Nat.le_refl _) _⟩
    · rw [decide_eq_false h9] at K1
      clear h0 h9 hx hy
      obtain ⟨aa, ca, rfl, h1, h2, h3⟩ := ha
      obtain ⟨ab, cb, rfl, h4, h5, h6⟩ := hb
      clear h1 h2 h3 h4 h5 h6
      go_enter Tryz.func110, Tryz.ntmps110
      go_wp2_with fail
      refine K0.out.mono ?_
      rintro e w' ⟨rfl, rfl⟩
      go_wp2_with fail
      refine K1.out.mono ?_
      rintro e w' ⟨rfl, rfl⟩
      go_wp2_with fail
      refine G.out.mono ?_
      rintro e w1 ⟨v, rfl, o1, b1⟩
      go_wp2
      go_ret
      exact ⟨_, rfl, o1, b1⟩

set_option maxHeartbeats 1000000 in
/-- the quotient: the row itself where the divisor is 1, else a row of the call's own -/
theorem impl_over0 (va vb : Value) (x y : Nat) (w : World) (ha : RowOf iV w va (limI x)) (hb : RowOf iV w vb (limI y)) (hy0 : 0 < y) (hx : nlen x ≤ 400) (hy : nlen y ≤ 400) :
    Calls Tryz.prog 167 #[va, vb] w fun e w' => ∃ v, e = .returned v ∧ (v = va ∧ x / y = x ∨ OwnI w' w.heap.size v (limI (x / y))) ∧ Below w.heap.size w w' := by
  have K1 := Lib.hid (impl_isOne vb y w hb)
  have G := Lib.hid (impl_divide va vb x y w ha hb hy0 hx hy)
  by_cases h9 : y = 1
  · have he : x / y = x := by rw [h9, Nat.div_one]
    have HE := Lib.hid he
    rw [decide_eq_true h9] at K1
    clear h9 hx hy hy0 G he
    obtain ⟨aa, ca, rfl, h1, h2, h3⟩ := ha
    obtain ⟨ab, cb, rfl, h4, h5, h6⟩ := hb
    clear h1 h2 h3 h4 h5 h6
    go_enter Tryz.func167, Tryz.ntmps167
    go_wp2_with (go_at_call 109; refine K1.out.mono ?_; rintro e w' ⟨rfl, rfl⟩)
    go_ret
    exact ⟨_, rfl, .inl ⟨rfl, HE.out⟩, Below.refl _ _⟩
  · rw [decide_eq_false h9] at K1
    clear h9 hx hy hy0
    obtain ⟨aa, ca, rfl, h1, h2, h3⟩ := ha
    obtain ⟨ab, cb, rfl, h4, h5, h6⟩ := hb
    clear h1 h2 h3 h4 h5 h6
    go_enter Tryz.func167, Tryz.ntmps167
    go_wp2_with fail
    refine K1.out.mono ?_
    rintro e w' ⟨rfl, rfl⟩
    go_wp2_with fail
    refine G.out.mono ?_
    rintro e w1 ⟨v0, v1, rfl, o1, o2, ap, b1⟩
    go_wp2
    go_ret
    exact ⟨_, rfl, .inr o1, b1⟩

theorem impl_over (va vb : Value) (x y : Nat) (w : World) (ha : RowOf iV w va (limI x)) (hb : RowOf iV w vb (limI y)) (hy0 : 0 < y) (hx : nlen x ≤ 400) (hy : nlen y ≤ 400) :
    Calls Tryz.prog 167 #[va, vb] w fun e w' => ∃ v, e = .returned v ∧ RowOf iV w' v (limI (x / y)) ∧ Below w.heap.size w w' := by
  refine (impl_over0 va vb x y w ha hb hy0 hx hy).mono ?_
  rintro e w' ⟨v, rfl, h, b1⟩
  refine ⟨v, rfl, ?_, b1⟩
  rcases h with ⟨rfl, he⟩ | ho
  · rw [he]; exact rowOf_below ha b1
  · exact ho.row

theorem impl_overOwn (va vb : Value) (x y B : Nat) (w : World) (ha : OwnI w B va (limI x)) (hB : B ≤ w.heap.size) (hb : RowOf iV w vb (limI y)) (hy0 : 0 < y) (hx : nlen x ≤ 400) (hy : nlen y ≤ 400) :
    Calls Tryz.prog 167 #[va, vb] w fun e w' => ∃ v, e = .returned v ∧ OwnI w' B v (limI (x / y)) ∧ Below w.heap.size w w' := by
  refine (impl_over0 va vb x y w ha.row hb hy0 hx hy).mono ?_
  rintro e w' ⟨v, rfl, h, b1⟩
  refine ⟨v, rfl, ?_, b1⟩
  rcases h with ⟨rfl, he⟩ | ho
  · rw [he]; exact ha.below b1
  · exact ho.base hB

theorem gcd_len' {x y n : Nat} (h : 0 < Nat.gcd x y) (hx : nlen x ≤ n) (hy : nlen y ≤ n) : nlen (Nat.gcd x y) ≤ n := by
  have := gcd_len x y
  omega
set_option maxHeartbeats 1000000 in
theorem impl_cancel (va vb : Value) (x y : Nat) (w : World) (ha : RowOf iV w va (limI x)) (hb : RowOf iV w vb (limI y)) (hg : 0 < Nat.gcd x y) (hx : nlen x ≤ 60) (hy : nlen y ≤ 60) :
    Calls Tryz.prog 143 #[va, vb] w fun e w' => ∃ v0 v1, e = .returned (.tuple #[v0, v1]) ∧ RowOf iV w' v0 (limI (lowX x y)) ∧ RowOf iV w' v1 (limI (lowD x y)) ∧ Below w.heap.size w w' := by
  have G := Lib.hid (impl_common va vb x y w ha hb hx hy)
  have hgl := gcd_len' hg hx hy
  have K0 := Lib.hid (fun W vg (hW : Below w.heap.size w W) (hr : RowOf iV W vg (limI (Nat.gcd x y))) => impl_over va vg x (Nat.gcd x y) W (rowOf_below ha hW) hr hg (by omega) (by omega))
  have K1 := Lib.hid (fun W vg (hW : Below w.heap.size w W) (hr : RowOf iV W vg (limI (Nat.gcd x y))) => impl_over vb vg y (Nat.gcd x y) W (rowOf_below hb hW) hr hg (by omega) (by omega))
  clear hg hgl hx hy
  unfold lowX lowD
  obtain ⟨g, hgg⟩ : ∃ g, Nat.gcd x y = g := ⟨_, rfl⟩
  rw [hgg] at G K0 K1 ⊢
  clear hgg
  obtain ⟨aa, ca, rfl, h1, h2, h3⟩ := ha
  obtain ⟨ab, cb, rfl, h4, h5, h6⟩ := hb
  clear h1 h2 h3 h4 h5 h6
  go_enter Tryz.func143, Tryz.ntmps143
  go_wp2_with fail
  refine G.out.mono ?_
  rintro e w1 ⟨vg, rfl, og, b1⟩
  have RG := Lib.hid og.row
  have B1 := Lib.hid b1
  clear og b1
  go_wp2_with fail
  refine (K0.out _ _ B1.out RG.out).mono ?_
  rintro e w2 ⟨v0, rfl, r0, b2⟩
  have B2 := Lib.hid (B1.out.trans (b2.mono B1.out.size))
  have RG2 := Lib.hid (rowOf_below RG.out b2)
  have R0 := Lib.hid r0
  clear r0 b2 RG B1
  go_wp2_with fail
  refine (K1.out _ _ B2.out RG2.out).mono ?_
  rintro e w3 ⟨v1, rfl, r1, b3⟩
  have R1 := Lib.hid r1
  have R2 := Lib.hid (rowOf_below R0.out b3)
  have B3 := Lib.hid (B2.out.trans (b3.mono B2.out.size))
  clear r1 b3 B2 R0
  go_wp2
  go_ret2
  exact ⟨_, _, rfl, R2.out, R1.out, B3.out⟩

end Go.Proofs.YtlepgkkpopjgoaaGreat
