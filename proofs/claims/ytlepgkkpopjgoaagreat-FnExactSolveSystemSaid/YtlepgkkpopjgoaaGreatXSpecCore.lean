/- Low RatAns RatLim Pre SpecLow SpecCore. -/
import Derived.Test.YtlepgkkpopjgoaaGreatXRat
import Derived.Test.YtlepgkkpopjgoaaGreatXDivisor
import Derived.Test.YtlepgkkpopjgoaaGreatXBigOfLaw
namespace Go.Proofs.YtlepgkkpopjgoaaGreat
open Go.RowKit Go.WideShapes Go.ChangeShapes
set_option linter.unusedVariables false
set_option linter.unusedSimpArgs false
theorem one_iff (x : Nat) : (x = 1) ↔ (nlen x = 1 ∧ dig x 0 = 1) := by
 constructor
 ·rintro rfl
  exact ⟨nlen_eq (k := 0) (by decide) (by decide), by decide⟩
 ·rintro ⟨h1, h2⟩
  have := (one_limb h1).1
  omega
theorem limI_1 : limI 1 = [1] := by
 have h : nlen 1 = 1 := ((one_iff 1).1 rfl).1
 unfold limI
 rw [h]
 rfl
set_option maxHeartbeats 400000 in
theorem impl_isOne (v : Value) (x : Nat) (w : World) (h : RowOf iV w v (limI x)) :
  Calls Tryz.prog 109 #[v] w fun e w' => e = .returned (.bool (decide (x = 1))) ∧ w' = w := by
 have R := Lib.hid h
 obtain ⟨a, c, rfl, h1, h2, h3⟩ := h
 clear h1 h2 h3
 rw [limI_length] at R ⊢
 by_cases hn : nlen x = 1
 ·obtain ⟨b, o, rfl, hx⟩ := row_limb R.out (k := 0) (by omega)
  rw [Nat.add_zero] at hx
  have HV := Lib.hid (show (dig x 0 == 1) = decide (x = 1) by
   have := one_iff x
   by_cases h : x = 1
   ·rw [decide_eq_true h]; simp [(this.1 h).2]
   ·rw [decide_eq_false h]; simp; exact fun h' => h (this.2 ⟨hn, h'⟩))
  obtain ⟨d, hd⟩ : ∃ d, dig x 0 = d := ⟨_, rfl⟩
  rw [hd] at hx HV
  rw [← HV.out]
  clear hd
  rw [hn]
  go_enter Tryz.func109, Tryz.ntmps109
  go_wp2
  go_ret
  exact ⟨ret_bool (by first | rfl | (rw [Bool.eq_iff_iff]; simp; try omega)), rfl⟩
 ·have hf : decide (x = 1) = false := decide_eq_false (fun h => hn ((one_iff x).1 h).1)
  rw [hf]
  have hn' : ((nlen x : Int) == 1) = false := by simp; omega
  obtain ⟨n, hnn⟩ : ∃ n, nlen x = n := ⟨_, rfl⟩
  rw [hnn] at hn hn' ⊢
  clear hnn hf
  go_enter Tryz.func109, Tryz.ntmps109
  go_wp2
  go_ret
  exact ⟨rfl, rfl⟩
set_option maxHeartbeats 400000 in
theorem spec_isOne (v : Value) (x : Nat) (w : World) (h : RowOf iV w v (limI x)) :
  Calls Tryz.prog 152 #[v] w fun e w' => e = .returned (.bool (decide (x = 1))) ∧ w' = w := by
 have R := Lib.hid h
 obtain ⟨a, c, rfl, h1, h2, h3⟩ := h
 clear h1 h2 h3
 rw [limI_length] at R ⊢
 by_cases hn : nlen x = 1
 ·obtain ⟨b, o, rfl, hx⟩ := row_limb R.out (k := 0) (by omega)
  rw [Nat.add_zero] at hx
  have HV := Lib.hid (show (dig x 0 == 1) = decide (x = 1) by
   have := one_iff x
   by_cases h : x = 1
   ·rw [decide_eq_true h]; simp [(this.1 h).2]
   ·rw [decide_eq_false h]; simp; exact fun h' => h (this.2 ⟨hn, h'⟩))
  obtain ⟨d, hd⟩ : ∃ d, dig x 0 = d := ⟨_, rfl⟩
  rw [hd] at hx HV
  rw [← HV.out]
  clear hd
  rw [hn]
  go_enter Tryz.func152, Tryz.ntmps152
  go_wp2
  go_ret
  exact ⟨ret_bool (by first | rfl | (rw [Bool.eq_iff_iff]; simp; try omega)), rfl⟩
 ·have hf : decide (x = 1) = false := decide_eq_false (fun h => hn ((one_iff x).1 h).1)
  rw [hf]
  have hn' : ((nlen x : Int) == 1) = false := by simp; omega
  obtain ⟨n, hnn⟩ : ∃ n, nlen x = n := ⟨_, rfl⟩
  rw [hnn] at hn hn' ⊢
  clear hnn hf
  go_enter Tryz.func152, Tryz.ntmps152
  go_wp2
  go_ret
  exact ⟨rfl, rfl⟩
set_option maxHeartbeats 400000 in
theorem impl_cloneI (v : Value) (x : Nat) (w : World) (h : RowOf iV w v (limI x)) (hx : nlen x ≤ 1000) :
  Calls Tryz.prog 118 #[v] w fun e w' => ∃ v', e = .returned v' ∧ OwnI w' w.heap.size v' (limI x) ∧ Below w.heap.size w w' := by
 have H := Lib.hid h
 obtain ⟨a, c, rfl, hc, hm, hr⟩ := h
 have hq := fun W : World => Lib.run_eql_slice_nil (P := Tryz.prog) W 30 3 a (limI x).length c 0 0 Tryz.underlying30
 cases a with
 | none =>
  have hl : limI x = [] := by
   cases hL : limI x with
   | nil => rfl
   | cons y r => obtain ⟨b, o, e, _⟩ := hr 0 (by rw [hL]; simp); cases e
  have HL := Lib.hid hl
  clear hl hr hc hm H
  simp only [Option.isNone_none] at hq
  go_enter Tryz.func118, Tryz.ntmps118
  go_wp2
  go_ret
  exact ⟨_, rfl, by rw [HL.out]; exact OwnI.nil _ _, Below.refl _ _⟩
 | some ad =>
  clear hr hc hm
  simp only [Option.isNone_some] at hq
  have hlen : ([] : List Int).length + (limI x).length ≤ 1099511627776 := by rw [limI_length]; simp; omega
  have HR := Lib.hid (fun o => rowOf_below H.out ((Below.refl w.heap.size w).alloc (Nat.le_refl _) o))
  go_enter Tryz.func118, Tryz.ntmps118
  go_wp2_with (at_builtin; refine append_ints rfl _ _ 30 Tryz.underlying30 rfl w.heap.size _ _ [] (limI x) rfl (OwnI.lit0 w) rfl (HR.out _) hlen (by simp) ?_; intro v' w1 h1 hg1)
  go_ret
  refine ⟨v', rfl, ?_, ((Below.refl _ w).alloc (Nat.le_refl _) _).grown hg1 (by simp) (fun k hk => ((OwnI.lit0 w).lt k hk).1)⟩
  rw [List.nil_append] at h1
  exact h1
theorem gcd_one_of {x y : Nat} (h : x = 1 ∨ y = 1) : Nat.gcd x y = 1 := by
 rcases h with rfl | rfl
 ·exact Nat.gcd_one_left y
 ·exact Nat.gcd_one_right x
set_option maxHeartbeats 1000000 in
theorem impl_common (va vb : Value) (x y : Nat) (w : World) (ha : RowOf iV w va (limI x)) (hb : RowOf iV w vb (limI y)) (hx : nlen x ≤ 60) (hy : nlen y ≤ 60) :
  Calls Tryz.prog 110 #[va, vb] w fun e w' => ∃ v, e = .returned v ∧ OwnI w' w.heap.size v (limI (Nat.gcd x y)) ∧ Below w.heap.size w w' := by
 have K0 := Lib.hid (impl_isOne va x w ha)
 have K1 := Lib.hid (impl_isOne vb y w hb)
 have G := Lib.hid (impl_gcd va vb x y w ha hb hx hy)
 by_cases h0 : x = 1
 ·rw [gcd_one_of (.inl h0), limI_1]
  rw [decide_eq_true h0] at K0
  clear h0 hx hy G
  obtain ⟨aa, ca, rfl, h1, h2, h3⟩ := ha
  obtain ⟨ab, cb, rfl, h4, h5, h6⟩ := hb
  clear h1 h2 h3 h4 h5 h6
  go_enter Tryz.func110, Tryz.ntmps110
  go_wp2_with (go_at_call 109; refine K0.out.mono ?_; rintro e w' ⟨rfl, rfl⟩)
  go_ret
  exact ⟨_, rfl, OwnI.lit1 _ _ 1 (Nat.le_refl _), (Below.refl _ _).alloc (Nat.le_refl _) _⟩
 ·rw [decide_eq_false h0] at K0
  by_cases h9 : y = 1
  ·rw [gcd_one_of (.inr h9), limI_1]
   rw [decide_eq_true h9] at K1
   clear h0 h9 hx hy G
   obtain ⟨aa, ca, rfl, h1, h2, h3⟩ := ha
   obtain ⟨ab, cb, rfl, h4, h5, h6⟩ := hb
   clear h1 h2 h3 h4 h5 h6
   go_enter Tryz.func110, Tryz.ntmps110
   go_wp2_with fail
   refine K0.out.mono ?_
   rintro e w' ⟨rfl, rfl⟩
   go_wp2_with fail
   refine K1.out.mono ?_
   rintro e w' ⟨rfl, rfl⟩
   go_wp2
   go_ret
   exact ⟨_, rfl, OwnI.lit1 _ _ 1 (Nat.le_refl _), (Below.refl _ _).alloc (Nat.le_refl _) _⟩
  ·rw [decide_eq_false h9] at K1
   clear h0 h9 hx hy
   obtain ⟨aa, ca, rfl, h1, h2, h3⟩ := ha
   obtain ⟨ab, cb, rfl, h4, h5, h6⟩ := hb
   clear h1 h2 h3 h4 h5 h6
   go_enter Tryz.func110, Tryz.ntmps110
   go_wp2_with fail
   refine K0.out.mono ?_
   rintro e w' ⟨rfl, rfl⟩
   go_wp2_with fail
   refine K1.out.mono ?_
   rintro e w' ⟨rfl, rfl⟩
   go_wp2_with fail
   refine G.out.mono ?_
   rintro e w1 ⟨v, rfl, o1, b1⟩
   go_wp2
   go_ret
   exact ⟨_, rfl, o1, b1⟩
set_option maxHeartbeats 1000000 in
theorem impl_over0 (va vb : Value) (x y : Nat) (w : World) (ha : RowOf iV w va (limI x)) (hb : RowOf iV w vb (limI y)) (hy0 : 0 < y) (hx : nlen x ≤ 400) (hy : nlen y ≤ 400) :
  Calls Tryz.prog 167 #[va, vb] w fun e w' => ∃ v, e = .returned v ∧ (v = va ∧ x / y = x ∨ OwnI w' w.heap.size v (limI (x / y))) ∧ Below w.heap.size w w' := by
 have K1 := Lib.hid (impl_isOne vb y w hb)
 have G := Lib.hid (impl_divide va vb x y w ha hb hy0 hx hy)
 by_cases h9 : y = 1
 ·have he : x / y = x := by rw [h9, Nat.div_one]
  have HE := Lib.hid he
  rw [decide_eq_true h9] at K1
  clear h9 hx hy hy0 G he
  obtain ⟨aa, ca, rfl, h1, h2, h3⟩ := ha
  obtain ⟨ab, cb, rfl, h4, h5, h6⟩ := hb
  clear h1 h2 h3 h4 h5 h6
  go_enter Tryz.func167, Tryz.ntmps167
  go_wp2_with (go_at_call 109; refine K1.out.mono ?_; rintro e w' ⟨rfl, rfl⟩)
  go_ret
  exact ⟨_, rfl, .inl ⟨rfl, HE.out⟩, Below.refl _ _⟩
 ·rw [decide_eq_false h9] at K1
  clear h9 hx hy hy0
  obtain ⟨aa, ca, rfl, h1, h2, h3⟩ := ha
  obtain ⟨ab, cb, rfl, h4, h5, h6⟩ := hb
  clear h1 h2 h3 h4 h5 h6
  go_enter Tryz.func167, Tryz.ntmps167
  go_wp2_with fail
  refine K1.out.mono ?_
  rintro e w' ⟨rfl, rfl⟩
  go_wp2_with fail
  refine G.out.mono ?_
  rintro e w1 ⟨v0, v1, rfl, o1, o2, ap, b1⟩
  go_wp2
  go_ret
  exact ⟨_, rfl, .inr o1, b1⟩
theorem impl_over (va vb : Value) (x y : Nat) (w : World) (ha : RowOf iV w va (limI x)) (hb : RowOf iV w vb (limI y)) (hy0 : 0 < y) (hx : nlen x ≤ 400) (hy : nlen y ≤ 400) :
  Calls Tryz.prog 167 #[va, vb] w fun e w' => ∃ v, e = .returned v ∧ RowOf iV w' v (limI (x / y)) ∧ Below w.heap.size w w' := by
 refine (impl_over0 va vb x y w ha hb hy0 hx hy).mono ?_
 rintro e w' ⟨v, rfl, h, b1⟩
 refine ⟨v, rfl, ?_, b1⟩
 rcases h with ⟨rfl, he⟩ | ho
 ·rw [he]; exact rowOf_below ha b1
 ·exact ho.row
theorem impl_overOwn (va vb : Value) (x y B : Nat) (w : World) (ha : OwnI w B va (limI x)) (hB : B ≤ w.heap.size) (hb : RowOf iV w vb (limI y)) (hy0 : 0 < y) (hx : nlen x ≤ 400) (hy : nlen y ≤ 400) :
  Calls Tryz.prog 167 #[va, vb] w fun e w' => ∃ v, e = .returned v ∧ OwnI w' B v (limI (x / y)) ∧ Below w.heap.size w w' := by
 refine (impl_over0 va vb x y w ha.row hb hy0 hx hy).mono ?_
 rintro e w' ⟨v, rfl, h, b1⟩
 refine ⟨v, rfl, ?_, b1⟩
 rcases h with ⟨rfl, he⟩ | ho
 ·rw [he]; exact ha.below b1
 ·exact ho.base hB
theorem gcd_len' {x y n : Nat} (h : 0 < Nat.gcd x y) (hx : nlen x ≤ n) (hy : nlen y ≤ n) : nlen (Nat.gcd x y) ≤ n := by
 have := gcd_len x y
 omega
set_option maxHeartbeats 1000000 in
theorem impl_cancel (va vb : Value) (x y : Nat) (w : World) (ha : RowOf iV w va (limI x)) (hb : RowOf iV w vb (limI y)) (hg : 0 < Nat.gcd x y) (hx : nlen x ≤ 60) (hy : nlen y ≤ 60) :
  Calls Tryz.prog 143 #[va, vb] w fun e w' => ∃ v0 v1, e = .returned (.tuple #[v0, v1]) ∧ RowOf iV w' v0 (limI (lowX x y)) ∧ RowOf iV w' v1 (limI (lowD x y)) ∧ Below w.heap.size w w' := by
 have G := Lib.hid (impl_common va vb x y w ha hb hx hy)
 have hgl := gcd_len' hg hx hy
 have K0 := Lib.hid (fun W vg (hW : Below w.heap.size w W) (hr : RowOf iV W vg (limI (Nat.gcd x y))) => impl_over va vg x (Nat.gcd x y) W (rowOf_below ha hW) hr hg (by omega) (by omega))
 have K1 := Lib.hid (fun W vg (hW : Below w.heap.size w W) (hr : RowOf iV W vg (limI (Nat.gcd x y))) => impl_over vb vg y (Nat.gcd x y) W (rowOf_below hb hW) hr hg (by omega) (by omega))
 clear hg hgl hx hy
 unfold lowX lowD
 obtain ⟨g, hgg⟩ : ∃ g, Nat.gcd x y = g := ⟨_, rfl⟩
 rw [hgg] at G K0 K1 ⊢
 clear hgg
 obtain ⟨aa, ca, rfl, h1, h2, h3⟩ := ha
 obtain ⟨ab, cb, rfl, h4, h5, h6⟩ := hb
 clear h1 h2 h3 h4 h5 h6
 go_enter Tryz.func143, Tryz.ntmps143
 go_wp2_with fail
 refine G.out.mono ?_
 rintro e w1 ⟨vg, rfl, og, b1⟩
 have RG := Lib.hid og.row
 have B1 := Lib.hid b1
 clear og b1
 go_wp2_with fail
 refine (K0.out _ _ B1.out RG.out).mono ?_
 rintro e w2 ⟨v0, rfl, r0, b2⟩
 have B2 := Lib.hid (B1.out.trans (b2.mono B1.out.size))
 have RG2 := Lib.hid (rowOf_below RG.out b2)
 have R0 := Lib.hid r0
 clear r0 b2 RG B1
 go_wp2_with fail
 refine (K1.out _ _ B2.out RG2.out).mono ?_
 rintro e w3 ⟨v1, rfl, r1, b3⟩
 have R1 := Lib.hid r1
 have R2 := Lib.hid (rowOf_below R0.out b3)
 have B3 := Lib.hid (B2.out.trans (b3.mono B2.out.size))
 clear r1 b3 B2 R0
 go_wp2
 go_ret2
 exact ⟨_, _, rfl, R2.out, R1.out, B3.out⟩
end Go.Proofs.YtlepgkkpopjgoaaGreat
namespace Go.Proofs.YtlepgkkpopjgoaaGreat
open Go.RowKit
set_option linter.unusedVariables false
set_option linter.unusedSimpArgs false
def okS (x d : Nat) : Bool := decide (0 < d) && decide (x < pw 24) && decide (d < pw 24)
def mkB (b : Bool) (x d : Nat) : Bool := okS x d && (b && decide (0 < x))
def mkZ (x d : Nat) : List Int := if okS x d then limI x else []
def mkD (x d : Nat) : List Int := if okS x d then limI d else []
theorem okS_iff {x d : Nat} : okS x d = true ↔ (0 < d ∧ x < pw 24 ∧ d < pw 24) := by unfold okS; simp [Bool.and_eq_true]; omega
theorem okS_no {x d : Nat} : okS x d = false ↔ ¬ (0 < d ∧ x < pw 24 ∧ d < pw 24) := by rw [← okS_iff]; simp
theorem okS_zero (x : Nat) : okS x 0 = false := by unfold okS; simp
theorem mk_yes {x d : Nat} (h : okS x d = true) (b : Bool) : mkB b x d = (b && decide (0 < x)) ∧ mkZ x d = limI x ∧ mkD x d = limI d := by
 unfold mkB mkZ mkD; rw [h]; exact ⟨by simp, rfl, rfl⟩
theorem mk_no {x d : Nat} (h : okS x d = false) (b : Bool) : mkB b x d = false ∧ mkZ x d = [] ∧ mkD x d = [] := by
 unfold mkB mkZ mkD; rw [h]; exact ⟨rfl, rfl, rfl⟩
theorem limI_pos (x : Nat) : (0 < (limI x).length) ↔ 0 < x := by rw [limI_length]; exact nlen_pos_iff x
theorem sgB_lim (b : Bool) (x : Nat) : sgB b (limI x) = (b && decide (0 < x)) := by
 unfold sgB; congr 1; exact decide_eq_decide.2 (limI_pos x)
def ratOk (b : Bool) (zs ds : List Int) : Bool := bigOk b zs && okB ds && (decide (0 < ds.length) && decide (ds.length ≤ 24) && decide (zs.length ≤ 24)) && decide (Nat.gcd (natI zs) (natI ds) = 1)
theorem ratOk_parts {b : Bool} {zs ds : List Int} (h : ratOk b zs ds = true) : ∃ x d, zs = limI x ∧ ds = limI d ∧ x < pw 24 ∧ d < pw 24 ∧ 0 < d ∧ Nat.gcd x d = 1 ∧ (b = true → 0 < x) := by
 unfold ratOk at h
 simp only [Bool.and_eq_true, decide_eq_true_eq] at h
 obtain ⟨⟨⟨h1, h2⟩, ⟨h3, h4⟩, h5⟩, h6⟩ := h
 obtain ⟨x, rfl, hx⟩ := okB_cases (bigOk_ok h1)
 obtain ⟨d, rfl, hd⟩ := okB_cases h2
 rw [limI_length] at h4 h5
 rw [natI_limI, natI_limI] at h6
 refine ⟨x, d, rfl, rfl, (nlen_le_iff _ _).1 h5, (nlen_le_iff _ _).1 h4, (limI_pos d).1 h3, h6, fun hb => ?_⟩
 subst hb
 exact (limI_pos x).1 (bigOk_pos h1)
theorem ratOk_make {b : Bool} {x d : Nat} (hx : x < pw 24) (hd : d < pw 24) (h0 : 0 < d) (hb : b = true → 0 < x) : ratOk b (limI x) (limI d) = decide (Nat.gcd x d = 1) := by
 unfold ratOk
 have h1 : bigOk b (limI x) = true := by
  have h := okB_limI (Nat.lt_trans hx (pw_lt (by omega : 24 < 60)))
  cases b with
  | false => exact bigOk_plain h
  | true => rw [bigOk_neg h]; exact decide_eq_true ((limI_pos x).2 (hb rfl))
 have h2 := okB_limI (Nat.lt_trans hd (pw_lt (by omega : 24 < 60)))
 rw [h1, h2, natI_limI, natI_limI, limI_length, limI_length, decide_eq_true ((nlen_pos_iff d).2 h0), decide_eq_true ((nlen_le_iff 24 d).2 hd), decide_eq_true ((nlen_le_iff 24 x).2 hx)]
 simp
theorem ratOk_big {b : Bool} {zs ds : List Int} (h : bigOk b zs = false) : ratOk b zs ds = false := by unfold ratOk; rw [h]; simp
theorem ratOk_den {b : Bool} {zs ds : List Int} (h : okB ds = false) : ratOk b zs ds = false := by unfold ratOk; rw [h]; simp
theorem ratOk_len {b : Bool} {zs ds : List Int} (h : ¬ (0 < ds.length ∧ ds.length ≤ 24 ∧ zs.length ≤ 24)) : ratOk b zs ds = false := by
 unfold ratOk
 have : (decide (0 < ds.length) && decide (ds.length ≤ 24) && decide (zs.length ≤ 24)) = false := by simp; omega
 rw [this]; simp
theorem coprime_sum {a b n : Nat} {k : Nat} (ha : Nat.Coprime a n) (hb : n ∣ b) (hk : k = a + b ∨ k = a - b ∧ b ≤ a ∨ k = b - a ∧ a ≤ b) : Nat.Coprime k n := by
 have h : ∀ p, p ∣ k → p ∣ n → p ∣ a := fun p h1 h2 => by
  have h3 := Nat.dvd_trans h2 hb
  rcases hk with rfl | ⟨rfl, hle⟩ | ⟨rfl, hle⟩
  ·exact (Nat.dvd_add_left h3).1 h1
  ·have := Nat.dvd_add h1 h3; rwa [Nat.sub_add_cancel hle] at this
  ·have := Nat.dvd_sub h3 h1; rwa [Nat.sub_sub_self hle] at this
 have h1 := h (Nat.gcd k n) (Nat.gcd_dvd_left _ _) (Nat.gcd_dvd_right _ _)
 have h2 := Nat.dvd_gcd h1 (Nat.gcd_dvd_right k n)
 rw [ha] at h2
 exact Nat.dvd_one.1 h2
theorem low_sum {n l r g : Nat} (hg : 0 < g) (hl : 0 < l) (hr : 0 < r) (hnl : Nat.Coprime n l) (hnr : Nat.Coprime n r) :
  lowX (n * g) (l * g * (r * g)) = n / Nat.gcd n g ∧ lowD (n * g) (l * g * (r * g)) = l * (r * g / Nat.gcd n g) := by
 have hq : 0 < Nat.gcd n g := Nat.gcd_pos_of_pos_right _ hg
 have hd : Nat.gcd n g ∣ r * g := Nat.dvd_trans (Nat.gcd_dvd_right n g) (Nat.dvd_mul_left g r)
 have e1 : l * g * (r * g) = l * (r * g) * g := by rw [Nat.mul_assoc, Nat.mul_comm g, ← Nat.mul_assoc]
 rw [e1, (low_times hg).1, (low_times hg).2]
 have e2 : r * g / Nat.gcd n g = r * (g / Nat.gcd n g) := by rw [Nat.mul_div_assoc _ (Nat.gcd_dvd_right n g)]
 have h1 : Nat.gcd (n / Nat.gcd n g) (g / Nat.gcd n g) = 1 := by rw [Nat.gcd_div (Nat.gcd_dvd_left n g) (Nat.gcd_dvd_right n g), Nat.div_self hq]
 have hdn : n / Nat.gcd n g ∣ n := Nat.div_dvd_of_dvd (Nat.gcd_dvd_left n g)
 have h2 : Nat.gcd (n / Nat.gcd n g) (l * (r * (g / Nat.gcd n g))) = 1 :=
  Nat.Coprime.mul_right (Nat.Coprime.coprime_dvd_left hdn hnl) (Nat.Coprime.mul_right (Nat.Coprime.coprime_dvd_left hdn hnr) h1)
 have h3 : 0 < g / Nat.gcd n g := Nat.div_pos (Nat.le_of_dvd hg (Nat.gcd_dvd_right n g)) hq
 have h4 := low_cross (a := n) (b := l * (r * g)) (x := n / Nat.gcd n g) (y := l * (r * (g / Nat.gcd n g))) (Nat.mul_pos hl (Nat.mul_pos hr hg)) (Nat.mul_pos hl (Nat.mul_pos hr h3)) (by
  have e3 : n = n / Nat.gcd n g * Nat.gcd n g := (Nat.div_mul_cancel (Nat.gcd_dvd_left n g)).symm
  have e4 : g = g / Nat.gcd n g * Nat.gcd n g := (Nat.div_mul_cancel (Nat.gcd_dvd_right n g)).symm
  generalize hQ : n / Nat.gcd n g = Q at *
  generalize hG : g / Nat.gcd n g = G at *
  generalize hK : Nat.gcd n g = K at *
  rw [e3, e4]
  simp only [Nat.mul_assoc, Nat.mul_comm, Nat.mul_left_comm])
 rw [h4.1, h4.2, (low_id h2).1, (low_id h2).2, e2]
 exact ⟨rfl, rfl⟩
theorem low_prod {x d y e : Nat} (hd : 0 < d) (he : 0 < e) (h1 : Nat.gcd x d = 1) (h2 : Nat.gcd y e = 1) :
  lowX (x * y) (d * e) = lowX x e * lowX y d ∧ lowD (x * y) (d * e) = lowD y d * lowD x e := by
 have ge : 0 < Nat.gcd x e := gcd_pos' he
 have gd : 0 < Nat.gcd y d := gcd_pos' hd
 have hc : Nat.gcd (lowX x e * lowX y d) (lowD y d * lowD x e) = 1 := by
  have dx : lowX x e ∣ x := Nat.div_dvd_of_dvd (Nat.gcd_dvd_left x e)
  have dy : lowX y d ∣ y := Nat.div_dvd_of_dvd (Nat.gcd_dvd_left y d)
  have dd : lowD y d ∣ d := Nat.div_dvd_of_dvd (Nat.gcd_dvd_right y d)
  have de : lowD x e ∣ e := Nat.div_dvd_of_dvd (Nat.gcd_dvd_right x e)
  have a1 : Nat.Coprime (lowX x e) (lowD y d) := Nat.Coprime.coprime_dvd_left dx (Nat.Coprime.coprime_dvd_right dd h1)
  have a2 : Nat.Coprime (lowX x e) (lowD x e) := low_one he
  have a3 : Nat.Coprime (lowX y d) (lowD y d) := low_one hd
  have a4 : Nat.Coprime (lowX y d) (lowD x e) := Nat.Coprime.coprime_dvd_left dy (Nat.Coprime.coprime_dvd_right de h2)
  exact Nat.Coprime.mul_left (Nat.Coprime.mul_right a1 a2) (Nat.Coprime.mul_right a3 a4)
 have h4 := low_cross (a := x * y) (b := d * e) (x := lowX x e * lowX y d) (y := lowD y d * lowD x e) (Nat.mul_pos hd he) (Nat.mul_pos (lowD_pos hd) (lowD_pos he)) (by
  have e1 := lowX_mul x e; have e2 := lowD_mul x e; have e3 := lowX_mul y d; have e4 := lowD_mul y d
  generalize lowX x e = X at *
  generalize lowD x e = E at *
  generalize lowX y d = Y at *
  generalize lowD y d = D at *
  rw [← e1, ← e3]
  have e5 : d * e = (D * Nat.gcd y d) * (E * Nat.gcd x e) := by rw [e2, e4]
  rw [e5]
  generalize Nat.gcd x e = K
  generalize Nat.gcd y d = L
  simp only [Nat.mul_assoc, Nat.mul_comm, Nat.mul_left_comm])
 rw [h4.1, h4.2, (low_id hc).1, (low_id hc).2]
 exact ⟨rfl, rfl⟩
theorem sg_times {b0 b1 : Bool} {m n g : Nat} (hg : 0 < g) : sgAddB b0 (m * g) b1 (n * g) = sgAddB b0 m b1 n ∧ sgAddN b0 (m * g) b1 (n * g) = sgAddN b0 m b1 n * g := by
 unfold sgAddB sgAddN
 have h : (n * g ≤ m * g) ↔ n ≤ m := ⟨fun h => Nat.le_of_mul_le_mul_right h hg, fun h => Nat.mul_le_mul_right g h⟩
 by_cases hb : b0 = b1
 ·rw [if_pos hb, if_pos hb, if_pos hb, if_pos hb]; exact ⟨rfl, (Nat.add_mul _ _ _).symm⟩
 ·by_cases hn : n ≤ m
  ·simp only [hb, hn, h, if_true, if_false]; exact ⟨trivial, (Nat.sub_mul _ _ _).symm⟩
  ·simp only [hb, hn, h, if_true, if_false]; exact ⟨trivial, (Nat.sub_mul _ _ _).symm⟩
theorem sg_coprime {b0 b1 : Bool} {m n l : Nat} (hm : Nat.Coprime m l) (hn : l ∣ n) : Nat.Coprime (sgAddN b0 m b1 n) l := by
 apply coprime_sum hm hn
 unfold sgAddN
 by_cases hb : b0 = b1
 ·rw [if_pos hb]; exact .inl rfl
 ·rw [if_neg hb]
  by_cases h : n ≤ m
  ·rw [if_pos h]; exact .inr (.inl ⟨rfl, h⟩)
  ·rw [if_neg h]; exact .inr (.inr ⟨rfl, by omega⟩)
theorem sgAddN_comm (b0 b1 : Bool) (m n : Nat) : sgAddN b0 m b1 n = sgAddN b1 n b0 m := by
 unfold sgAddN
 by_cases hb : b0 = b1
 ·rw [if_pos hb, if_pos hb.symm, Nat.add_comm]
 ·rw [if_neg hb, if_neg (show ¬ b1 = b0 from fun h => hb h.symm)]
  split <;> split <;> omega
theorem sgAddN_le (b0 b1 : Bool) (m n : Nat) : sgAddN b0 m b1 n ≤ m + n := by
 unfold sgAddN; split; omega; split <;> omega
theorem low_add {b0 b1 : Bool} {x d y e : Nat} (hd : 0 < d) (he : 0 < e) (h1 : Nat.gcd x d = 1) (h2 : Nat.gcd y e = 1) :
  ∃ N, N = sgAddN b0 (x * (e / Nat.gcd d e)) b1 (y * (d / Nat.gcd d e)) ∧
   lowX (sgAddN b0 (x * e) b1 (y * d)) (d * e) = N / Nat.gcd N (Nat.gcd d e) ∧
   lowD (sgAddN b0 (x * e) b1 (y * d)) (d * e) = d / Nat.gcd d e * (e / Nat.gcd N (Nat.gcd d e)) ∧
   sgAddB b0 (x * e) b1 (y * d) = sgAddB b0 (x * (e / Nat.gcd d e)) b1 (y * (d / Nat.gcd d e)) := by
 have hg : 0 < Nat.gcd d e := gcd_pos' he
 have el : d = d / Nat.gcd d e * Nat.gcd d e := (Nat.div_mul_cancel (Nat.gcd_dvd_left d e)).symm
 have er : e = e / Nat.gcd d e * Nat.gcd d e := (Nat.div_mul_cancel (Nat.gcd_dvd_right d e)).symm
 have hlr : Nat.Coprime (d / Nat.gcd d e) (e / Nat.gcd d e) := by
  show Nat.gcd _ _ = 1
  rw [Nat.gcd_div (Nat.gcd_dvd_left d e) (Nat.gcd_dvd_right d e), Nat.div_self hg]
 have hl : 0 < d / Nat.gcd d e := Nat.div_pos (Nat.le_of_dvd hd (Nat.gcd_dvd_left d e)) hg
 have hr : 0 < e / Nat.gcd d e := Nat.div_pos (Nat.le_of_dvd he (Nat.gcd_dvd_right d e)) hg
 have hxl : Nat.Coprime x (d / Nat.gcd d e) := Nat.Coprime.coprime_dvd_right (Nat.div_dvd_of_dvd (Nat.gcd_dvd_left d e)) h1
 have hyr : Nat.Coprime y (e / Nat.gcd d e) := Nat.Coprime.coprime_dvd_right (Nat.div_dvd_of_dvd (Nat.gcd_dvd_right d e)) h2
 generalize Nat.gcd d e = g at *
 generalize d / g = l at *
 generalize e / g = r at *
 subst el er
 refine ⟨_, rfl, ?_⟩
 have e1 : x * (r * g) = x * r * g := (Nat.mul_assoc _ _ _).symm
 have e2 : y * (l * g) = y * l * g := (Nat.mul_assoc _ _ _).symm
 rw [e1, e2, (sg_times hg).1, (sg_times hg).2]
 have c1 : Nat.Coprime (sgAddN b0 (x * r) b1 (y * l)) l := sg_coprime (Nat.Coprime.mul_left hxl hlr.symm) (Nat.dvd_mul_left l y)
 have c2 : Nat.Coprime (sgAddN b0 (x * r) b1 (y * l)) r := by
  rw [sgAddN_comm]
  exact sg_coprime (Nat.Coprime.mul_left hyr hlr) (Nat.dvd_mul_left r x)
 have h := low_sum hg hl hr c1 c2
 exact ⟨h.1, h.2, rfl⟩
theorem div_pos_iff {n k : Nat} (h : k ∣ n) (hk : 0 < k) : 0 < n ↔ 0 < n / k := by
 obtain ⟨m, rfl⟩ := h
 rw [Nat.mul_div_cancel_left _ hk]
 exact ⟨fun h => Nat.pos_of_mul_pos_left h, fun h => Nat.mul_pos hk h⟩
theorem big_lim {b : Bool} {x : Nat} (hx : x < pw 60) (hb : b = true → 0 < x) : bigOk b (limI x) = true := by
 have h := okB_limI hx
 cases b with
 | false => exact bigOk_plain h
 | true => rw [bigOk_neg h]; exact decide_eq_true ((limI_pos x).2 (hb rfl))
end Go.Proofs.YtlepgkkpopjgoaaGreat
namespace Go.Proofs.YtlepgkkpopjgoaaGreat
open Go.RowKit Go.WideShapes Go.ChangeShapes
set_option linter.unusedVariables false
set_option linter.unusedSimpArgs false
set_option maxHeartbeats 400000 in
theorem impl_isShort (b : Bool) (a : Option Addr) (n c : Nat) (e : Option Addr) (m f : Nat) (w : World) :
  Calls Tryz.prog 106 #[.agg #[.bool b, .slice a n c, .slice e m f]] w fun r w' => r = .returned (.bool (decide (n ≤ 24) && decide (m ≤ 24))) ∧ Below w.heap.size w w' := by
 by_cases hn : n ≤ 24
 ·by_cases hm : m ≤ 24
  ·rw [decide_eq_true hn, decide_eq_true hm]
   go_enter Tryz.func106, Tryz.ntmps106
   go_wp2
   go_ret
   exact ⟨ret_bool (by first | rfl | (simp; omega)), (Below.refl _ _).alloc (Nat.le_refl _) _⟩
  ·rw [decide_eq_true hn, decide_eq_false hm]
   go_enter Tryz.func106, Tryz.ntmps106
   go_wp2
   go_ret
   exact ⟨ret_bool (by first | rfl | (simp; omega)), (Below.refl _ _).alloc (Nat.le_refl _) _⟩
 ·rw [decide_eq_false hn]
  have hd : decide ((n : Int) ≤ 24) = false := by simp; omega
  go_enter Tryz.func106, Tryz.ntmps106
  go_wp2
  go_ret
  exact ⟨ret_bool (by first | rfl | (simp; omega)), (Below.refl _ _).alloc (Nat.le_refl _) _⟩
def Lim (sh : Bool) (b : Bool) (v d : Value) (b' : Bool) (v' d' : Value) : Prop :=
 (sh = true ∧ b' = b ∧ v' = v ∧ d' = d) ∨ (sh = false ∧ b' = false ∧ v' = .slice none 0 0 ∧ d' = .slice none 0 0)
theorem OwnR.nil (w : World) (B : Nat) : OwnR w B (.slice none 0 0) [] (.slice none 0 0) [] := ⟨OwnI.nil _ _, OwnI.nil _ _, fun g g' h _ => by simp [Value.ownBlock] at h⟩
theorem lim_own {w : World} {B x d : Nat} {b s b' : Bool} {v dd v' d' : Value} (h : Lim (decide (nlen x ≤ 24) && decide (nlen d ≤ 24)) b v dd b' v' d') (h0 : 0 < d) (hb : b = (s && decide (0 < x))) (ho : OwnR w B v (limI x) dd (limI d)) :
  b' = mkB s x d ∧ OwnR w B v' (mkZ x d) d' (mkD x d) := by
 have e : (decide (nlen x ≤ 24) && decide (nlen d ≤ 24)) = okS x d := by
  unfold okS
  rw [decide_eq_true h0, Bool.true_and]
  congr 1 <;> exact decide_eq_decide.2 (nlen_le_iff _ _)
 rw [e] at h
 rcases h with ⟨h1, rfl, rfl, rfl⟩ | ⟨h1, rfl, rfl, rfl⟩
 ·rw [(mk_yes h1 s).1, (mk_yes h1 s).2.1, (mk_yes h1 s).2.2]; exact ⟨hb, ho⟩
 ·rw [(mk_no h1 s).1, (mk_no h1 s).2.1, (mk_no h1 s).2.2]; exact ⟨rfl, OwnR.nil _ _⟩
theorem rat_end {w wn : World} {p B : Nat} {t : TypeId} {b b' : Bool} {v d u e : Value} {zs ds : List Int} (hB : Below w.heap.size w wn) (D : Rx wn p t b v d) (ho : OwnR wn B u zs e ds) (ht : t ≠ 3) (h1 : w.heap.size ≤ B) (h2 : w.heap.size ≤ p) (y z : Value) :
  OwnR (((wn.setCell ⟨p, 0, none⟩ (.bool b')).setCell ⟨p, 1, none⟩ y).setCell ⟨p, 2, none⟩ z) w.heap.size u zs e ds ∧ Below w.heap.size w (((wn.setCell ⟨p, 0, none⟩ (.bool b')).setCell ⟨p, 1, none⟩ y).setCell ⟨p, 2, none⟩ z) :=
 ⟨(ho.set3 D ht y z).base h1, ((hB.setCell h2 _).setCell h2 _).setCell h2 _⟩
set_option maxHeartbeats 400000 in
theorem impl_limitedR2 (b : Bool) (a : Option Addr) (n c : Nat) (e : Option Addr) (m f : Nat) (w : World) :
  Calls Tryz.prog 145 #[.agg #[.bool b, .slice a n c, .slice e m f]] w fun r w' => ∃ b' a' n' c' e' m' f', r = .returned (.agg #[.bool b', .slice a' n' c', .slice e' m' f']) ∧ Lim (decide (n ≤ 24) && decide (m ≤ 24)) b (.slice a n c) (.slice e m f) b' (.slice a' n' c') (.slice e' m' f') ∧ Below w.heap.size w w' := by
 have K := Lib.hid (fun W => impl_isShort b a n c e m f W)
 cases hs : (decide (n ≤ 24) && decide (m ≤ 24)) with
 | true =>
  rw [hs] at K
  clear hs
  go_enter Tryz.func145, Tryz.ntmps145
  go_wp2_with fail
  obtain ⟨W0, hW0⟩ : ∃ x, x = ((w.alloc (.cells #[.bool b, .slice a n c, .slice e m f] 34)).alloc (.cells #[.bool false, .slice none 0 0, .slice none 0 0] 34)) := ⟨_, rfl⟩
  have B := Lib.hid (show Below w.heap.size w W0 by rw [hW0]; exact (((Below.refl _ _).alloc (Nat.le_refl _) _).alloc (by simp) _))
  have D_x := Lib.hid (rx_at (show Rx W0 _ 34 (b) (.slice a n c) (.slice e m f) by rw [hW0]; exact (Rx.new _ _ _ _ _).alloc _) (show w.heap.size = _ by simp))
  have D_r := Lib.hid (rx_at (show Rx W0 _ 34 (false) (.slice none 0 0) (.slice none 0 0) by rw [hW0]; exact Rx.new _ _ _ _ _) (show (w.heap.size + 1) = _ by simp))
  have SZ := Lib.hid (show W0.heap.size = w.heap.size + 1 + 1 by rw [hW0]; simp)
  rw [← hW0]
  clear hW0
  have BB := Lib.hid (Below.refl W0.heap.size W0)
  refine (K.out _).mono ?_
  rintro e w1 ⟨rfl, bw1⟩
  replace B := Lib.hid (B.out.trans (bw1.mono B.out.size))
  replace BB := Lib.hid (BB.out.trans (bw1.mono BB.out.size))
  clear bw1
  have c0_x := (D_x.out.below BB.out).c0
  have c1_x := (D_x.out.below BB.out).c1
  have c2_x := (D_x.out.below BB.out).c2
  have c0_r := (D_r.out.below BB.out).c0
  have c1_r := (D_r.out.below BB.out).c1
  have c2_r := (D_r.out.below BB.out).c2
  have f0_r := (D_r.out.below BB.out).f 0
  have f1_r := (D_r.out.below BB.out).f 1
  have f2_r := (D_r.out.below BB.out).f 2
  go_wp2
  have D9 := Rx.set3 (b' := b) (v' := .slice a n c) (d' := .slice e m f) (D_r.out.below BB.out)
  have hc0 := D9.c0
  have hc1 := D9.c1
  have hc2 := D9.c2
  have hB := ((B.out.setCell (p := ⟨(w.heap.size + 1), 0, none⟩) (by simp) (.bool b)).setCell (p := ⟨(w.heap.size + 1), 1, none⟩) (by simp) (.slice a n c)).setCell (p := ⟨(w.heap.size + 1), 2, none⟩) (by simp) (.slice e m f)
  exact bodyPost_ret (v := .agg #[.bool b, .slice a n c, .slice e m f]) (by simp [results, Tryz.results145, go_sem, hc0, hc1, hc2]) rfl ⟨_, _, _, _, _, _, _, rfl, .inl ⟨rfl, rfl, rfl, rfl⟩, hB⟩
 | false =>
  rw [hs] at K
  clear hs
  go_enter Tryz.func145, Tryz.ntmps145
  go_wp2_with fail
  obtain ⟨W0, hW0⟩ : ∃ x, x = ((w.alloc (.cells #[.bool b, .slice a n c, .slice e m f] 34)).alloc (.cells #[.bool false, .slice none 0 0, .slice none 0 0] 34)) := ⟨_, rfl⟩
  have B := Lib.hid (show Below w.heap.size w W0 by rw [hW0]; exact (((Below.refl _ _).alloc (Nat.le_refl _) _).alloc (by simp) _))
  have D_x := Lib.hid (rx_at (show Rx W0 _ 34 (b) (.slice a n c) (.slice e m f) by rw [hW0]; exact (Rx.new _ _ _ _ _).alloc _) (show w.heap.size = _ by simp))
  have D_r := Lib.hid (rx_at (show Rx W0 _ 34 (false) (.slice none 0 0) (.slice none 0 0) by rw [hW0]; exact Rx.new _ _ _ _ _) (show (w.heap.size + 1) = _ by simp))
  have SZ := Lib.hid (show W0.heap.size = w.heap.size + 1 + 1 by rw [hW0]; simp)
  rw [← hW0]
  clear hW0
  have BB := Lib.hid (Below.refl W0.heap.size W0)
  refine (K.out _).mono ?_
  rintro e w1 ⟨rfl, bw1⟩
  replace B := Lib.hid (B.out.trans (bw1.mono B.out.size))
  replace BB := Lib.hid (BB.out.trans (bw1.mono BB.out.size))
  clear bw1
  have c0_x := (D_x.out.below BB.out).c0
  have c1_x := (D_x.out.below BB.out).c1
  have c2_x := (D_x.out.below BB.out).c2
  have c0_r := (D_r.out.below BB.out).c0
  have c1_r := (D_r.out.below BB.out).c1
  have c2_r := (D_r.out.below BB.out).c2
  have f0_r := (D_r.out.below BB.out).f 0
  have f1_r := (D_r.out.below BB.out).f 1
  have f2_r := (D_r.out.below BB.out).f 2
  go_wp2
  have D9 := Rx.set3 (b' := false) (v' := .slice none 0 0) (d' := .slice none 0 0) (D_r.out.below BB.out)
  have hc0 := D9.c0
  have hc1 := D9.c1
  have hc2 := D9.c2
  have hB := ((B.out.setCell (p := ⟨(w.heap.size + 1), 0, none⟩) (by simp) (.bool false)).setCell (p := ⟨(w.heap.size + 1), 1, none⟩) (by simp) (.slice none 0 0)).setCell (p := ⟨(w.heap.size + 1), 2, none⟩) (by simp) (.slice none 0 0)
  exact bodyPost_ret (v := .agg #[.bool false, .slice none 0 0, .slice none 0 0]) (by simp [results, Tryz.results145, go_sem, hc0, hc1, hc2]) rfl ⟨_, _, _, _, _, _, _, rfl, .inr ⟨rfl, rfl, rfl, rfl⟩, hB⟩
end Go.Proofs.YtlepgkkpopjgoaaGreat
namespace Go.Proofs.YtlepgkkpopjgoaaGreat
open Go.RowKit Go.WideShapes Go.ChangeShapes
set_option linter.unusedVariables false
theorem Bx.drew {w : World} {p : Nat} {t : TypeId} {b : Bool} {v : Value} (h : Bx w p t b v) : Bx w.drew p t b v := h
theorem rowOf_form {w : World} {v : Value} {l : List Int} (h : RowOf iV w v l) : ∃ a c, v = .slice a l.length c := by
 obtain ⟨a, c, h1, _⟩ := h
 exact ⟨a, c, h1⟩
theorem pre_own {R : Value → Value} {f : Nat} {args : Array Value} {W wk : World} {l : List Int} (h : Calls Tryz.prog f args W fun e w' => ∃ v, e = .returned (R v) ∧ OwnI w' W.heap.size v l ∧ Below W.heap.size W w') (hW : Below wk.heap.size wk W) :
  Calls Tryz.prog f args W fun e w' => ∃ v, e = .returned (R v) ∧ OwnI w' wk.heap.size v l ∧ (∀ g, v.ownBlock = some g → W.heap.size ≤ g) ∧ Below W.heap.size W w' ∧ Below wk.heap.size wk w' :=
 h.mono fun _ _ ⟨v, he, ho, hb⟩ => ⟨v, he, ho.base hW.size, fun g hg => (ho.lt g hg).1, hb, hW.trans (hb.mono hW.size)⟩
theorem pre_row {f : Nat} {args : Array Value} {W wk : World} {l : List Int} (h : Calls Tryz.prog f args W fun e w' => ∃ v, e = .returned v ∧ RowOf iV w' v l ∧ Below W.heap.size W w') (hW : Below wk.heap.size wk W) :
  Calls Tryz.prog f args W fun e w' => ∃ v, e = .returned v ∧ RowOf iV w' v l ∧ Below W.heap.size W w' ∧ Below wk.heap.size wk w' :=
 h.mono fun _ _ ⟨v, he, ho, hb⟩ => ⟨v, he, ho, hb, hW.trans (hb.mono hW.size)⟩
theorem pre_rat {b : Bool} {f : Nat} {args : Array Value} {W wk : World} {l m : List Int} (h : Calls Tryz.prog f args W fun e w' => ∃ v d, e = .returned (.agg #[.bool b, v, d]) ∧ OwnR w' W.heap.size v l d m ∧ Below W.heap.size W w') (hW : Below wk.heap.size wk W) :
  Calls Tryz.prog f args W fun e w' => ∃ v d, e = .returned (.agg #[.bool b, v, d]) ∧ OwnR w' wk.heap.size v l d m ∧ (∀ g, v.ownBlock = some g ∨ d.ownBlock = some g → W.heap.size ≤ g) ∧ Below W.heap.size W w' ∧ Below wk.heap.size wk w' :=
 h.mono fun _ _ ⟨v, d, he, ho, hb⟩ => ⟨v, d, he, ho.base hW.size, fun g hg => (ho.lt g hg).1, hb, hW.trans (hb.mono hW.size)⟩
theorem pre_lim {f : Nat} {args : Array Value} {W wk : World} {sh b : Bool} {v d : Value} (h : Calls Tryz.prog f args W fun r w' => ∃ b' a' n' c' e' m' f', r = .returned (.agg #[.bool b', .slice a' n' c', .slice e' m' f']) ∧ Lim sh b v d b' (.slice a' n' c') (.slice e' m' f') ∧ Below W.heap.size W w') (hW : Below wk.heap.size wk W) :
  Calls Tryz.prog f args W fun r w' => ∃ b' a' n' c' e' m' f', r = .returned (.agg #[.bool b', .slice a' n' c', .slice e' m' f']) ∧ Lim sh b v d b' (.slice a' n' c') (.slice e' m' f') ∧ Below W.heap.size W w' ∧ Below wk.heap.size wk w' :=
 h.mono fun _ _ ⟨b', a', n', c', e', m', f', he, ho, hb⟩ => ⟨b', a', n', c', e', m', f', he, ho, hb, hW.trans (hb.mono hW.size)⟩
theorem apart_lo {W : World} {B : Nat} {v u : Value} {l : List Int} (h : OwnI W B v l) (hu : ∀ g, u.ownBlock = some g → W.heap.size ≤ g) : ApartR v u := fun g g' e1 e2 => by
 have := (h.lt g e1).2
 have := hu g' e2
 omega
theorem ApartR.symm {v u : Value} (h : ApartR v u) : ApartR u v := fun g g' e1 e2 e => h g' g e2 e1 e.symm
theorem impl_withSignN (b : Bool) (va : Value) (T : Nat) (w : World) (ha : RowOf iV w va (limI T)) (hT : T < pw 60) :
  Calls Tryz.prog 141 #[.bool b, va] w fun e w' => ∃ v, e = .returned (.agg #[.bool (b && decide (0 < T)), v]) ∧ OwnI w' w.heap.size v (limI T) ∧ Below w.heap.size w w' := by
 have h := impl_withSign b va T w ha
 rw [capL_yes hT, sgB_lim] at h
 exact h
theorem spec_makeN (b : Bool) (va : Value) (T : Nat) (w : World) (ha : RowOf iV w va (limI T)) (hT : T < pw 60) :
  Calls Tryz.prog 135 #[.bool b, va] w fun e w' => ∃ v, e = .returned (.agg #[.bool (b && decide (0 < T)), v]) ∧ OwnI w' w.heap.size v (limI T) ∧ Below w.heap.size w w' := by
 have h := spec_make b va T (nlen T) w ha (Nat.le_refl _)
 rw [capL_yes hT, sgB_lim] at h
 exact h
theorem lim_ownL {w : World} {B x d : Nat} {b s b' : Bool} {v dd v' d' : Value} (h : Lim (decide ((limI x).length ≤ 24) && decide ((limI d).length ≤ 24)) b v dd b' v' d') (h0 : 0 < d) (hb : b = (s && decide (0 < x))) (ho : OwnR w B v (limI x) dd (limI d)) :
  b' = mkB s x d ∧ OwnR w B v' (mkZ x d) d' (mkD x d) := by
 rw [limI_length, limI_length] at h
 exact lim_own h h0 hb ho
theorem Bx.ne_row {w : World} {p : Nat} {t : TypeId} {b : Bool} {v u : Value} {l : List Int} {B : Nat} (h : Bx w p t b v) (ho : OwnI w B u l) (ht : t ≠ 3) : some p ≠ u.ownBlock := by
 intro e
 rcases ho.2 with ⟨rfl, _⟩ | ⟨g, cap, cur, rfl, _, hgb, _⟩
 ·simp [Value.ownBlock] at e
 ·have e2 : p = g := by simpa [Value.ownBlock] using e
  subst e2
  have h2 : w.heap[p]? = _ := h
  rw [hgb] at h2
  injection h2 with h2
  injection h2 with _ h3 _
  exact ht h3.symm
theorem own_bx1 {w : World} {p : Nat} {t : TypeId} {b : Bool} {v u : Value} {l : List Int} {B : Nat} (ho : OwnI w B u l) (h : Bx w p t b v) (ht : t ≠ 3) (j : Nat) (x : Value) : OwnI (w.setCell ⟨p, j, none⟩ x) B u l := by
 refine ho.other (setCell_grown w p j x) (fun g g' e1 e2 e3 => ?_)
 have e4 : p = g' := by simpa using e2
 exact h.ne_row ho ht (by rw [e1, e3, e4])
theorem Bx.set1 {w : World} {p : Nat} {t : TypeId} {b : Bool} {v v' : Value} (h : Bx w p t b v) : Bx (w.setCell ⟨p, 1, none⟩ v') p t b v' := by
 have h' : w.heap[p]? = some (.cells #[.bool b, v] t (0, 0)) := h
 show (w.setCell ⟨p, 1, none⟩ v').heap[p]? = some (.cells #[.bool b, v'] t (0, 0))
 simp [World.setCell, Array.getElem?_modify, h']
theorem rowOf_bx {w : World} {p j : Nat} {t : TypeId} {b : Bool} {a : Option Addr} {n c : Nat} {v y : Value} {l : List Int} (h : RowOf iV w v l) (D : Bx w p t b (.slice a n c)) : RowOf iV (w.setCell ⟨p, j, none⟩ y) v l := by
 obtain ⟨a', c', e, h1, h2, h3⟩ := h
 refine ⟨a', c', e, h1, h2, fun i hi => ?_⟩
 obtain ⟨b', o, e1, e2⟩ := h3 i hi
 refine ⟨b', o, e1, ?_⟩
 by_cases hb : b' = p
 ·subst hb
  have D' : w.heap[b']? = some (.cells #[.bool b, .slice a n c] t (0, 0)) := D
  have hk : o + i = 0 ∨ o + i = 1 ∨ 2 ≤ o + i := by omega
  rcases hk with hk | hk | hk
  ·rw [hk] at e2; simp [World.cell?, D', iV] at e2
  ·rw [hk] at e2; simp [World.cell?, D', iV] at e2
  ·have : w.cell? ⟨b', o + i, none⟩ = none := by
    simp [World.cell?, D']
    omega
   rw [this] at e2; cases e2
 ·exact (World.cell?_of_block (a := ⟨b', o + i, none⟩) (Below.heap_setCell _ ⟨p, j, none⟩ y b' hb)).trans e2
theorem impl_plusN (b0 : Bool) (va : Value) (x : Nat) (b1 : Bool) (vb : Value) (y : Nat) (w : World) (ha : RowOf iV w va (limI x)) (hb : RowOf iV w vb (limI y)) (hx : nlen x ≤ 400) (hy : nlen y ≤ 400) (hT : sgAddN b0 x b1 y < pw 60) :
  Calls Tryz.prog 175 #[.agg #[.bool b0, va], .bool b1, vb] w fun e w' => ∃ v, e = .returned (.agg #[.bool (sgAddB b0 x b1 y && decide (0 < sgAddN b0 x b1 y)), v]) ∧ OwnI w' w.heap.size v (limI (sgAddN b0 x b1 y)) ∧ Below w.heap.size w w' := by
 have h := impl_plusBig b0 va x b1 vb y w ha hb hx hy
 rw [capL_yes hT, sgB_lim] at h
 exact h
theorem spec_addN (b0 : Bool) (va : Value) (x : Nat) (b1 : Bool) (vb : Value) (y : Nat) (w : World) (ha : RowOf iV w va (limI x)) (hb : RowOf iV w vb (limI y)) (hx : nlen x ≤ 400) (hy : nlen y ≤ 400) (hT : sgAddN b0 x b1 y < pw 60) :
  Calls Tryz.prog 192 #[.agg #[.bool b0, va], .agg #[.bool b1, vb]] w fun e w' => ∃ v, e = .returned (.agg #[.bool (sgAddB b0 x b1 y && decide (0 < sgAddN b0 x b1 y)), v]) ∧ OwnI w' w.heap.size v (limI (sgAddN b0 x b1 y)) ∧ Below w.heap.size w w' := by
 have h := spec_addBig b0 va x b1 vb y w ha hb hx hy
 rw [capL_yes hT, sgB_lim] at h
 exact h
end Go.Proofs.YtlepgkkpopjgoaaGreat
namespace Go.Proofs.YtlepgkkpopjgoaaGreat
open Go.RowKit Go.WideShapes Go.ChangeShapes
set_option linter.unusedVariables false
set_option linter.unusedSimpArgs false
theorem lowX_m1 (x : Nat) : lowX x 1 = x ∧ lowD x 1 = 1 := low_id (Nat.gcd_one_right x)
theorem row_limN {w : World} {v : Value} {x : Nat} (h : RowOf iV w v (limI x)) : RowOf iV w v (listF (nlen x) (digF x)) := h
set_option maxRecDepth 100000 in
set_option maxHeartbeats 4000000 in
theorem spec_low (b : Bool) (va : Value) (x : Nat) (vb : Value) (m : Nat) (w : World) (ha : RowOf iV w va (limI x)) (hb : RowOf iV w vb (limI m)) (hx : x < pw 60) (hm : m < pw 60) :
  Calls Tryz.prog 126 #[.bool b, va, vb] w fun r w' => ∃ v dd, r = .returned (.agg #[.bool (mkB b (lowX x m) (lowD x m)), v, dd]) ∧ OwnR w' w.heap.size v (mkZ (lowX x m) (lowD x m)) dd (mkD (lowX x m) (lowD x m)) ∧ Below w.heap.size w w' := by
 have RA_x := Lib.hid ha
 have RA_m := Lib.hid hb
 have B_x := Lib.hid ((nlen_le_iff _ _).2 hx)
 have B_m := Lib.hid ((nlen_le_iff _ _).2 hm)
 clear ha hb hx hm
 by_cases hm0 : m = 0
 ·have hk : okS (lowX x m) (lowD x m) = false := by rw [hm0]; unfold lowD; rw [Nat.zero_div]; exact okS_zero _
  rw [(mk_no hk _).1, (mk_no hk false).2.1, (mk_no hk false).2.2]
  clear hk
  have hq : ((nlen m : Int) == 0) = true := by rw [hm0, nlen_zero]; rfl
  clear hm0
  go_enter Tryz.func126, Tryz.ntmps126
  go_wp2_with fail
  obtain ⟨W0, hW0⟩ : ∃ x, x = (w.alloc (.cells #[.bool false, .slice none 0 0, .slice none 0 0] 34)) := ⟨_, rfl⟩
  have B := Lib.hid (show Below w.heap.size w W0 by rw [hW0]; exact ((Below.refl _ _).alloc (Nat.le_refl _) _))
  have D_r := Lib.hid (rx_at (show Rx W0 _ 34 (false) (.slice none 0 0) (.slice none 0 0) by rw [hW0]; exact Rx.new _ _ _ _ _) (show w.heap.size = _ by simp))
  have SZ := Lib.hid (show W0.heap.size = w.heap.size + 1 by rw [hW0]; simp)
  rw [← hW0]
  clear hW0
  have BB := Lib.hid (Below.refl W0.heap.size W0)
  refine (spec_trimR _ x _ W0 (row_limN (rowOf_below RA_x.out B.out)) (Nat.le_refl _)).mono ?_
  rintro r9 w9 ⟨v_x, rfl, hqx, h9⟩
  replace h9 := h9.symm
  subst h9
  have Q_x := Lib.hid hqx
  clear hqx
  go_wp2_with fail
  refine (spec_trimR _ m _ _ (row_limN (rowOf_below RA_m.out B.out)) (Nat.le_refl _)).mono ?_
  rintro r9 w9 ⟨v_m, rfl, hqm, h9⟩
  replace h9 := h9.symm
  subst h9
  obtain ⟨a_m, c_m, rfl⟩ := rowOf_form hqm
  rw [limI_length] at hqm ⊢
  have Q_m := Lib.hid hqm
  clear hqm
  have c0_r := (D_r.out.below BB.out).c0
  have c1_r := (D_r.out.below BB.out).c1
  have c2_r := (D_r.out.below BB.out).c2
  have f0_r := (D_r.out.below BB.out).f 0
  have f1_r := (D_r.out.below BB.out).f 1
  have f2_r := (D_r.out.below BB.out).f 2
  go_wp2
  obtain ⟨e1, e2⟩ := rat_end (b' := false) B.out (D_r.out.below BB.out) (OwnR.nil _ W0.heap.size) (by decide) (by have := SZ.out; omega) (by omega) (.slice none 0 0) (.slice none 0 0)
  have D8 := Rx.set3 (b' := false) (v' := .slice none 0 0) (d' := .slice none 0 0) (D_r.out.below BB.out)
  have hc0 := D8.c0; have hc1 := D8.c1; have hc2 := D8.c2
  exact bodyPost_ret (v := .agg #[.bool false, .slice none 0 0, .slice none 0 0]) (by simp [results, Tryz.results126, go_sem, hc0, hc1, hc2]) rfl ⟨_, _, rfl, e1, e2⟩
 have hm9 : 0 < m := by omega
 have hq : ((nlen m : Int) == 0) = false := by have := (nlen_pos_iff m).2 hm9; simp; omega
 have GP := Lib.hid (gcd_pos' (a := x) hm9)
 have HM := Lib.hid hm9
 have PD := Lib.hid (lowD_pos (a := x) hm9)
 clear hm9 hm0
 have B_g := Lib.hid (gcd_len' GP.out B_x.out B_m.out)
 obtain ⟨XX, hXX⟩ : ∃ X, lowX x m = X := ⟨_, rfl⟩
 obtain ⟨YY, hYY⟩ : ∃ X, lowD x m = X := ⟨_, rfl⟩
 have EX := Lib.hid hXX
 have EY := Lib.hid hYY
 rw [hXX, hYY]
 rw [hYY] at PD
 clear hXX hYY
 by_cases hm1 : m = 1
 ·have H1 := Lib.hid (decide_eq_true hm1)
  have TX := Lib.hid (show limI x = limI XX by rw [← EX.out, hm1, (lowX_m1 x).1])
  have TY := Lib.hid (show limI m = limI YY by rw [← EY.out, hm1, (lowX_m1 x).2])
  have TL := Lib.hid (show nlen m = (limI YY).length by rw [← TY.out, limI_length])
  clear hm1
  by_cases hX : XX < pw 24
  rotate_left
  ·have hk : okS XX YY = false := okS_no.2 (fun h => hX h.2.1)
   rw [(mk_no hk _).1, (mk_no hk false).2.1, (mk_no hk false).2.2]
   have hn : decide (24 < ((limI XX).length : Int)) = true := by have : ¬ nlen XX ≤ 24 := fun h => hX ((nlen_le_iff _ _).1 h); rw [limI_length]; simp; omega
   clear hk hX
   go_enter Tryz.func126, Tryz.ntmps126
   go_wp2_with fail
   obtain ⟨W0, hW0⟩ : ∃ x, x = (w.alloc (.cells #[.bool false, .slice none 0 0, .slice none 0 0] 34)) := ⟨_, rfl⟩
   have B := Lib.hid (show Below w.heap.size w W0 by rw [hW0]; exact ((Below.refl _ _).alloc (Nat.le_refl _) _))
   have D_r := Lib.hid (rx_at (show Rx W0 _ 34 (false) (.slice none 0 0) (.slice none 0 0) by rw [hW0]; exact Rx.new _ _ _ _ _) (show w.heap.size = _ by simp))
   have SZ := Lib.hid (show W0.heap.size = w.heap.size + 1 by rw [hW0]; simp)
   rw [← hW0]
   clear hW0
   have BB := Lib.hid (Below.refl W0.heap.size W0)
   refine (spec_trimR _ x _ W0 (row_limN (rowOf_below RA_x.out B.out)) (Nat.le_refl _)).mono ?_
   rintro r9 w9 ⟨v_x, rfl, hqx, h9⟩
   replace h9 := h9.symm
   subst h9
   have Q_x := Lib.hid hqx
   clear hqx
   go_wp2_with fail
   refine (spec_trimR _ m _ _ (row_limN (rowOf_below RA_m.out B.out)) (Nat.le_refl _)).mono ?_
   rintro r9 w9 ⟨v_m, rfl, hqm, h9⟩
   replace h9 := h9.symm
   subst h9
   obtain ⟨a_m, c_m, rfl⟩ := rowOf_form hqm
   rw [limI_length] at hqm ⊢
   have Q_m := Lib.hid hqm
   clear hqm
   go_wp2_with fail
   refine (spec_isOne _ m _ Q_m.out).mono ?_
   rw [H1.out]
   rintro r9 w9 ⟨rfl, h9⟩
   replace h9 := h9.symm
   subst h9
   have hqx := Q_x.out
   rw [TX.out] at hqx
   have hqm := Q_m.out
   rw [TY.out] at hqm
   have Q_X := Lib.hid hqx
   have Q_Y := Lib.hid hqm
   clear hqx hqm
   obtain ⟨a_X, c_X, hvX⟩ := rowOf_form Q_X.out
   subst hvX
   try rw [TL.out]
   try rw [TL.out] at Q_Y
   skip
   have c0_r := (D_r.out.below BB.out).c0
   have c1_r := (D_r.out.below BB.out).c1
   have c2_r := (D_r.out.below BB.out).c2
   have f0_r := (D_r.out.below BB.out).f 0
   have f1_r := (D_r.out.below BB.out).f 1
   have f2_r := (D_r.out.below BB.out).f 2
   go_wp2
   obtain ⟨e1, e2⟩ := rat_end (b' := false) B.out (D_r.out.below BB.out) (OwnR.nil _ W0.heap.size) (by decide) (by have := SZ.out; omega) (by omega) (.slice none 0 0) (.slice none 0 0)
   have D8 := Rx.set3 (b' := false) (v' := .slice none 0 0) (d' := .slice none 0 0) (D_r.out.below BB.out)
   have hc0 := D8.c0; have hc1 := D8.c1; have hc2 := D8.c2
   exact bodyPost_ret (v := .agg #[.bool false, .slice none 0 0, .slice none 0 0]) (by simp [results, Tryz.results126, go_sem, hc0, hc1, hc2]) rfl ⟨_, _, rfl, e1, e2⟩
  ·have hn : decide (24 < ((limI XX).length : Int)) = false := by have := (nlen_le_iff _ _).2 hX; rw [limI_length]; simp; omega
   by_cases hY : YY < pw 24
   rotate_left
   ·have hk : okS XX YY = false := okS_no.2 (fun h => hY h.2.2)
    rw [(mk_no hk _).1, (mk_no hk false).2.1, (mk_no hk false).2.2]
    have hn2 : decide (24 < ((limI YY).length : Int)) = true := by have : ¬ nlen YY ≤ 24 := fun h => hY ((nlen_le_iff _ _).1 h); rw [limI_length]; simp; omega
    clear hk hX hY
    go_enter Tryz.func126, Tryz.ntmps126
    go_wp2_with fail
    obtain ⟨W0, hW0⟩ : ∃ x, x = (w.alloc (.cells #[.bool false, .slice none 0 0, .slice none 0 0] 34)) := ⟨_, rfl⟩
    have B := Lib.hid (show Below w.heap.size w W0 by rw [hW0]; exact ((Below.refl _ _).alloc (Nat.le_refl _) _))
    have D_r := Lib.hid (rx_at (show Rx W0 _ 34 (false) (.slice none 0 0) (.slice none 0 0) by rw [hW0]; exact Rx.new _ _ _ _ _) (show w.heap.size = _ by simp))
    have SZ := Lib.hid (show W0.heap.size = w.heap.size + 1 by rw [hW0]; simp)
    rw [← hW0]
    clear hW0
    have BB := Lib.hid (Below.refl W0.heap.size W0)
    refine (spec_trimR _ x _ W0 (row_limN (rowOf_below RA_x.out B.out)) (Nat.le_refl _)).mono ?_
    rintro r9 w9 ⟨v_x, rfl, hqx, h9⟩
    replace h9 := h9.symm
    subst h9
    have Q_x := Lib.hid hqx
    clear hqx
    go_wp2_with fail
    refine (spec_trimR _ m _ _ (row_limN (rowOf_below RA_m.out B.out)) (Nat.le_refl _)).mono ?_
    rintro r9 w9 ⟨v_m, rfl, hqm, h9⟩
    replace h9 := h9.symm
    subst h9
    obtain ⟨a_m, c_m, rfl⟩ := rowOf_form hqm
    rw [limI_length] at hqm ⊢
    have Q_m := Lib.hid hqm
    clear hqm
    go_wp2_with fail
    refine (spec_isOne _ m _ Q_m.out).mono ?_
    rw [H1.out]
    rintro r9 w9 ⟨rfl, h9⟩
    replace h9 := h9.symm
    subst h9
    have hqx := Q_x.out
    rw [TX.out] at hqx
    have hqm := Q_m.out
    rw [TY.out] at hqm
    have Q_X := Lib.hid hqx
    have Q_Y := Lib.hid hqm
    clear hqx hqm
    obtain ⟨a_X, c_X, hvX⟩ := rowOf_form Q_X.out
    subst hvX
    try rw [TL.out]
    try rw [TL.out] at Q_Y
    skip
    have c0_r := (D_r.out.below BB.out).c0
    have c1_r := (D_r.out.below BB.out).c1
    have c2_r := (D_r.out.below BB.out).c2
    have f0_r := (D_r.out.below BB.out).f 0
    have f1_r := (D_r.out.below BB.out).f 1
    have f2_r := (D_r.out.below BB.out).f 2
    go_wp2
    obtain ⟨e1, e2⟩ := rat_end (b' := false) B.out (D_r.out.below BB.out) (OwnR.nil _ W0.heap.size) (by decide) (by have := SZ.out; omega) (by omega) (.slice none 0 0) (.slice none 0 0)
    have D8 := Rx.set3 (b' := false) (v' := .slice none 0 0) (d' := .slice none 0 0) (D_r.out.below BB.out)
    have hc0 := D8.c0; have hc1 := D8.c1; have hc2 := D8.c2
    exact bodyPost_ret (v := .agg #[.bool false, .slice none 0 0, .slice none 0 0]) (by simp [results, Tryz.results126, go_sem, hc0, hc1, hc2]) rfl ⟨_, _, rfl, e1, e2⟩
   ·have hn2 : decide (24 < ((limI YY).length : Int)) = false := by have := (nlen_le_iff _ _).2 hY; rw [limI_length]; simp; omega
    have hk : okS XX YY = true := okS_iff.2 ⟨PD.out, hX, hY⟩
    rw [(mk_yes hk _).1, (mk_yes hk false).2.1, (mk_yes hk false).2.2]
    have KX := Lib.hid hX
    have KY := Lib.hid hY
    clear hk hX hY
    go_enter Tryz.func126, Tryz.ntmps126
    go_wp2_with fail
    obtain ⟨W0, hW0⟩ : ∃ x, x = (w.alloc (.cells #[.bool false, .slice none 0 0, .slice none 0 0] 34)) := ⟨_, rfl⟩
    have B := Lib.hid (show Below w.heap.size w W0 by rw [hW0]; exact ((Below.refl _ _).alloc (Nat.le_refl _) _))
    have D_r := Lib.hid (rx_at (show Rx W0 _ 34 (false) (.slice none 0 0) (.slice none 0 0) by rw [hW0]; exact Rx.new _ _ _ _ _) (show w.heap.size = _ by simp))
    have SZ := Lib.hid (show W0.heap.size = w.heap.size + 1 by rw [hW0]; simp)
    rw [← hW0]
    clear hW0
    have BB := Lib.hid (Below.refl W0.heap.size W0)
    refine (spec_trimR _ x _ W0 (row_limN (rowOf_below RA_x.out B.out)) (Nat.le_refl _)).mono ?_
    rintro r9 w9 ⟨v_x, rfl, hqx, h9⟩
    replace h9 := h9.symm
    subst h9
    have Q_x := Lib.hid hqx
    clear hqx
    go_wp2_with fail
    refine (spec_trimR _ m _ _ (row_limN (rowOf_below RA_m.out B.out)) (Nat.le_refl _)).mono ?_
    rintro r9 w9 ⟨v_m, rfl, hqm, h9⟩
    replace h9 := h9.symm
    subst h9
    obtain ⟨a_m, c_m, rfl⟩ := rowOf_form hqm
    rw [limI_length] at hqm ⊢
    have Q_m := Lib.hid hqm
    clear hqm
    go_wp2_with fail
    refine (spec_isOne _ m _ Q_m.out).mono ?_
    rw [H1.out]
    rintro r9 w9 ⟨rfl, h9⟩
    replace h9 := h9.symm
    subst h9
    have hqx := Q_x.out
    rw [TX.out] at hqx
    have hqm := Q_m.out
    rw [TY.out] at hqm
    have Q_X := Lib.hid hqx
    have Q_Y := Lib.hid hqm
    clear hqx hqm
    obtain ⟨a_X, c_X, hvX⟩ := rowOf_form Q_X.out
    subst hvX
    try rw [TL.out]
    try rw [TL.out] at Q_Y
    skip
    go_wp2_with fail
    refine (spec_makeN b _ XX _ Q_X.out (by have := KX.out; exact Nat.lt_of_lt_of_le this (pw_mono (by omega)))).mono ?_
    rintro e w1 ⟨v_k, rfl, o_k, bw1⟩
    obtain ⟨a_k, c_k, rfl⟩ := o_k.slice
    replace Q_x := Lib.hid (rowOf_below Q_x.out bw1)
    replace Q_m := Lib.hid (rowOf_below Q_m.out bw1)
    replace Q_X := Lib.hid (rowOf_below Q_X.out bw1)
    replace Q_Y := Lib.hid (rowOf_below Q_Y.out bw1)
    have O_k := Lib.hid (o_k.base BB.out.size)
    clear o_k
    replace B := Lib.hid (B.out.trans (bw1.mono B.out.size))
    replace BB := Lib.hid (BB.out.trans (bw1.mono BB.out.size))
    clear bw1
    have hln : ([] : List Int).length + (limI YY).length ≤ 1099511627776 := by have := (nlen_le_iff _ _).2 KY.out; rw [limI_length]; simp; omega
    have HL := Lib.hid (OwnI.lit0 w1)
    have HR2 := Lib.hid (rowOf_below Q_Y.out ((Below.refl _ _).alloc (Nat.le_refl _) (.cells #[] 3)))
    have FIN : Hid (∀ (v' : Value) (wz : World), OwnI wz w1.heap.size v' ([] ++ limI YY) → (w1.alloc (.cells #[] 3)).grownBy wz (some w1.heap.size) → (∃ a c, v' = .slice a (limI YY).length c) ∧ Rx wz w.heap.size 34 false (.slice none 0 0) (.slice none 0 0) ∧ OwnR wz W0.heap.size (.slice a_k (limI XX).length c_k) (limI XX) v' (limI YY) ∧ Below w.heap.size w wz) := fun v' wz h1 hg => by
     rw [List.nil_append] at h1
     have hsz := BB.out.size; have hs0 := SZ.out; have hlt := O_k.out.lt
     refine ⟨h1.slice, ((D_r.out.below BB.out).alloc _).kept hg (fun e => by injection e with e; omega), ⟨(O_k.out.alloc _).other hg (fun g g' e1 e2 e3 => by injection e2 with e2; have := (hlt g e1).2; omega), h1.base hsz, fun g g' e1 e2 e3 => by have := (hlt g e1).2; have := (h1.lt g' e2).1; omega⟩, (B.out.alloc B.out.size _).grown hg (by have := B.out.size; simp; omega) (fun g e => by injection e with e; omega)⟩
    go_wp2_with (at_builtin; refine append_ints rfl _ _ 30 Tryz.underlying30 rfl _ _ _ [] (limI YY) rfl HL.out rfl HR2.out hln (by simp) ?_; intro v2 w2z h1 hg1; obtain ⟨⟨a2, c2, rfl⟩, hD, hO, hB⟩ := FIN.out _ _ h1 hg1; have k0 := hD.c0; have k1 := hD.c1; have k2 := hD.c2; have k3 := hD.f 0; have k4 := hD.f 1; have k5 := hD.f 2; have HD := Lib.hid hD; have HO := Lib.hid hO; have HB := Lib.hid hB; clear hD hO hB h1 hg1)
    obtain ⟨e1, e2⟩ := rat_end (b' := (b && decide (0 < XX))) HB.out HD.out HO.out (by decide) (by have := SZ.out; omega) (Nat.le_refl _) (.slice a_k (limI XX).length c_k) (.slice a2 (limI YY).length c2)
    have D8 := Rx.set3 (b' := (b && decide (0 < XX))) (v' := .slice a_k (limI XX).length c_k) (d' := .slice a2 (limI YY).length c2) HD.out
    have hc0 := D8.c0; have hc1 := D8.c1; have hc2 := D8.c2
    exact bodyPost_ret (v := .agg #[.bool (b && decide (0 < XX)), .slice a_k (limI XX).length c_k, .slice a2 (limI YY).length c2]) (by simp [results, Tryz.results126, go_sem, hc0, hc1, hc2]) rfl ⟨_, _, rfl, e1, e2⟩
 have H1 := Lib.hid (decide_eq_false hm1)
 clear hm1
 by_cases hg1 : Nat.gcd x m = 1
 ·have H2 := Lib.hid (decide_eq_true hg1)
  have TX := Lib.hid (show limI x = limI XX by rw [← EX.out, (low_id hg1).1])
  have TY := Lib.hid (show limI m = limI YY by rw [← EY.out, (low_id hg1).2])
  have TL := Lib.hid (show nlen m = (limI YY).length by rw [← TY.out, limI_length])
  clear hg1
  by_cases hX : XX < pw 24
  rotate_left
  ·have hk : okS XX YY = false := okS_no.2 (fun h => hX h.2.1)
   rw [(mk_no hk _).1, (mk_no hk false).2.1, (mk_no hk false).2.2]
   have hn : decide (24 < ((limI XX).length : Int)) = true := by have : ¬ nlen XX ≤ 24 := fun h => hX ((nlen_le_iff _ _).1 h); rw [limI_length]; simp; omega
   clear hk hX
   go_enter Tryz.func126, Tryz.ntmps126
   go_wp2_with fail
   obtain ⟨W0, hW0⟩ : ∃ x, x = (w.alloc (.cells #[.bool false, .slice none 0 0, .slice none 0 0] 34)) := ⟨_, rfl⟩
   have B := Lib.hid (show Below w.heap.size w W0 by rw [hW0]; exact ((Below.refl _ _).alloc (Nat.le_refl _) _))
   have D_r := Lib.hid (rx_at (show Rx W0 _ 34 (false) (.slice none 0 0) (.slice none 0 0) by rw [hW0]; exact Rx.new _ _ _ _ _) (show w.heap.size = _ by simp))
   have SZ := Lib.hid (show W0.heap.size = w.heap.size + 1 by rw [hW0]; simp)
   rw [← hW0]
   clear hW0
   have BB := Lib.hid (Below.refl W0.heap.size W0)
   refine (spec_trimR _ x _ W0 (row_limN (rowOf_below RA_x.out B.out)) (Nat.le_refl _)).mono ?_
   rintro r9 w9 ⟨v_x, rfl, hqx, h9⟩
   replace h9 := h9.symm
   subst h9
   have Q_x := Lib.hid hqx
   clear hqx
   go_wp2_with fail
   refine (spec_trimR _ m _ _ (row_limN (rowOf_below RA_m.out B.out)) (Nat.le_refl _)).mono ?_
   rintro r9 w9 ⟨v_m, rfl, hqm, h9⟩
   replace h9 := h9.symm
   subst h9
   obtain ⟨a_m, c_m, rfl⟩ := rowOf_form hqm
   rw [limI_length] at hqm ⊢
   have Q_m := Lib.hid hqm
   clear hqm
   go_wp2_with fail
   refine (spec_isOne _ m _ Q_m.out).mono ?_
   rw [H1.out]
   rintro r9 w9 ⟨rfl, h9⟩
   replace h9 := h9.symm
   subst h9
   go_wp2_with fail
   refine (spec_gcd _ _ x m _ Q_x.out Q_m.out B_x.out B_m.out).mono ?_
   rintro e w1 ⟨v_g, rfl, o_g, bw1⟩
   obtain ⟨a_g, c_g, rfl⟩ := o_g.slice
   replace Q_x := Lib.hid (rowOf_below Q_x.out bw1)
   replace Q_m := Lib.hid (rowOf_below Q_m.out bw1)
   have Q_g := Lib.hid o_g.row
   clear o_g
   replace B := Lib.hid (B.out.trans (bw1.mono B.out.size))
   replace BB := Lib.hid (BB.out.trans (bw1.mono BB.out.size))
   clear bw1
   go_wp2_with fail
   refine (spec_isOne _ (Nat.gcd x m) _ Q_g.out).mono ?_
   rw [H2.out]
   rintro r9 w9 ⟨rfl, h9⟩
   replace h9 := h9.symm
   subst h9
   have hqx := Q_x.out
   rw [TX.out] at hqx
   have hqm := Q_m.out
   rw [TY.out] at hqm
   have Q_X := Lib.hid hqx
   have Q_Y := Lib.hid hqm
   clear hqx hqm
   obtain ⟨a_X, c_X, hvX⟩ := rowOf_form Q_X.out
   subst hvX
   try rw [TL.out]
   try rw [TL.out] at Q_Y
   skip
   have c0_r := (D_r.out.below BB.out).c0
   have c1_r := (D_r.out.below BB.out).c1
   have c2_r := (D_r.out.below BB.out).c2
   have f0_r := (D_r.out.below BB.out).f 0
   have f1_r := (D_r.out.below BB.out).f 1
   have f2_r := (D_r.out.below BB.out).f 2
   go_wp2
   obtain ⟨e1, e2⟩ := rat_end (b' := false) B.out (D_r.out.below BB.out) (OwnR.nil _ W0.heap.size) (by decide) (by have := SZ.out; omega) (by omega) (.slice none 0 0) (.slice none 0 0)
   have D8 := Rx.set3 (b' := false) (v' := .slice none 0 0) (d' := .slice none 0 0) (D_r.out.below BB.out)
   have hc0 := D8.c0; have hc1 := D8.c1; have hc2 := D8.c2
   exact bodyPost_ret (v := .agg #[.bool false, .slice none 0 0, .slice none 0 0]) (by simp [results, Tryz.results126, go_sem, hc0, hc1, hc2]) rfl ⟨_, _, rfl, e1, e2⟩
  ·have hn : decide (24 < ((limI XX).length : Int)) = false := by have := (nlen_le_iff _ _).2 hX; rw [limI_length]; simp; omega
   by_cases hY : YY < pw 24
   rotate_left
   ·have hk : okS XX YY = false := okS_no.2 (fun h => hY h.2.2)
    rw [(mk_no hk _).1, (mk_no hk false).2.1, (mk_no hk false).2.2]
    have hn2 : decide (24 < ((limI YY).length : Int)) = true := by have : ¬ nlen YY ≤ 24 := fun h => hY ((nlen_le_iff _ _).1 h); rw [limI_length]; simp; omega
    clear hk hX hY
    go_enter Tryz.func126, Tryz.ntmps126
    go_wp2_with fail
    obtain ⟨W0, hW0⟩ : ∃ x, x = (w.alloc (.cells #[.bool false, .slice none 0 0, .slice none 0 0] 34)) := ⟨_, rfl⟩
    have B := Lib.hid (show Below w.heap.size w W0 by rw [hW0]; exact ((Below.refl _ _).alloc (Nat.le_refl _) _))
    have D_r := Lib.hid (rx_at (show Rx W0 _ 34 (false) (.slice none 0 0) (.slice none 0 0) by rw [hW0]; exact Rx.new _ _ _ _ _) (show w.heap.size = _ by simp))
    have SZ := Lib.hid (show W0.heap.size = w.heap.size + 1 by rw [hW0]; simp)
    rw [← hW0]
    clear hW0
    have BB := Lib.hid (Below.refl W0.heap.size W0)
    refine (spec_trimR _ x _ W0 (row_limN (rowOf_below RA_x.out B.out)) (Nat.le_refl _)).mono ?_
    rintro r9 w9 ⟨v_x, rfl, hqx, h9⟩
    replace h9 := h9.symm
    subst h9
    have Q_x := Lib.hid hqx
    clear hqx
    go_wp2_with fail
    refine (spec_trimR _ m _ _ (row_limN (rowOf_below RA_m.out B.out)) (Nat.le_refl _)).mono ?_
    rintro r9 w9 ⟨v_m, rfl, hqm, h9⟩
    replace h9 := h9.symm
    subst h9
    obtain ⟨a_m, c_m, rfl⟩ := rowOf_form hqm
    rw [limI_length] at hqm ⊢
    have Q_m := Lib.hid hqm
    clear hqm
    go_wp2_with fail
    refine (spec_isOne _ m _ Q_m.out).mono ?_
    rw [H1.out]
    rintro r9 w9 ⟨rfl, h9⟩
    replace h9 := h9.symm
    subst h9
    go_wp2_with fail
    refine (spec_gcd _ _ x m _ Q_x.out Q_m.out B_x.out B_m.out).mono ?_
    rintro e w1 ⟨v_g, rfl, o_g, bw1⟩
    obtain ⟨a_g, c_g, rfl⟩ := o_g.slice
    replace Q_x := Lib.hid (rowOf_below Q_x.out bw1)
    replace Q_m := Lib.hid (rowOf_below Q_m.out bw1)
    have Q_g := Lib.hid o_g.row
    clear o_g
    replace B := Lib.hid (B.out.trans (bw1.mono B.out.size))
    replace BB := Lib.hid (BB.out.trans (bw1.mono BB.out.size))
    clear bw1
    go_wp2_with fail
    refine (spec_isOne _ (Nat.gcd x m) _ Q_g.out).mono ?_
    rw [H2.out]
    rintro r9 w9 ⟨rfl, h9⟩
    replace h9 := h9.symm
    subst h9
    have hqx := Q_x.out
    rw [TX.out] at hqx
    have hqm := Q_m.out
    rw [TY.out] at hqm
    have Q_X := Lib.hid hqx
    have Q_Y := Lib.hid hqm
    clear hqx hqm
    obtain ⟨a_X, c_X, hvX⟩ := rowOf_form Q_X.out
    subst hvX
    try rw [TL.out]
    try rw [TL.out] at Q_Y
    skip
    have c0_r := (D_r.out.below BB.out).c0
    have c1_r := (D_r.out.below BB.out).c1
    have c2_r := (D_r.out.below BB.out).c2
    have f0_r := (D_r.out.below BB.out).f 0
    have f1_r := (D_r.out.below BB.out).f 1
    have f2_r := (D_r.out.below BB.out).f 2
    go_wp2
    obtain ⟨e1, e2⟩ := rat_end (b' := false) B.out (D_r.out.below BB.out) (OwnR.nil _ W0.heap.size) (by decide) (by have := SZ.out; omega) (by omega) (.slice none 0 0) (.slice none 0 0)
    have D8 := Rx.set3 (b' := false) (v' := .slice none 0 0) (d' := .slice none 0 0) (D_r.out.below BB.out)
    have hc0 := D8.c0; have hc1 := D8.c1; have hc2 := D8.c2
    exact bodyPost_ret (v := .agg #[.bool false, .slice none 0 0, .slice none 0 0]) (by simp [results, Tryz.results126, go_sem, hc0, hc1, hc2]) rfl ⟨_, _, rfl, e1, e2⟩
   ·have hn2 : decide (24 < ((limI YY).length : Int)) = false := by have := (nlen_le_iff _ _).2 hY; rw [limI_length]; simp; omega
    have hk : okS XX YY = true := okS_iff.2 ⟨PD.out, hX, hY⟩
    rw [(mk_yes hk _).1, (mk_yes hk false).2.1, (mk_yes hk false).2.2]
    have KX := Lib.hid hX
    have KY := Lib.hid hY
    clear hk hX hY
    go_enter Tryz.func126, Tryz.ntmps126
    go_wp2_with fail
    obtain ⟨W0, hW0⟩ : ∃ x, x = (w.alloc (.cells #[.bool false, .slice none 0 0, .slice none 0 0] 34)) := ⟨_, rfl⟩
    have B := Lib.hid (show Below w.heap.size w W0 by rw [hW0]; exact ((Below.refl _ _).alloc (Nat.le_refl _) _))
    have D_r := Lib.hid (rx_at (show Rx W0 _ 34 (false) (.slice none 0 0) (.slice none 0 0) by rw [hW0]; exact Rx.new _ _ _ _ _) (show w.heap.size = _ by simp))
    have SZ := Lib.hid (show W0.heap.size = w.heap.size + 1 by rw [hW0]; simp)
    rw [← hW0]
    clear hW0
    have BB := Lib.hid (Below.refl W0.heap.size W0)
    refine (spec_trimR _ x _ W0 (row_limN (rowOf_below RA_x.out B.out)) (Nat.le_refl _)).mono ?_
    rintro r9 w9 ⟨v_x, rfl, hqx, h9⟩
    replace h9 := h9.symm
    subst h9
    have Q_x := Lib.hid hqx
    clear hqx
    go_wp2_with fail
    refine (spec_trimR _ m _ _ (row_limN (rowOf_below RA_m.out B.out)) (Nat.le_refl _)).mono ?_
    rintro r9 w9 ⟨v_m, rfl, hqm, h9⟩
    replace h9 := h9.symm
    subst h9
    obtain ⟨a_m, c_m, rfl⟩ := rowOf_form hqm
    rw [limI_length] at hqm ⊢
    have Q_m := Lib.hid hqm
    clear hqm
    go_wp2_with fail
    refine (spec_isOne _ m _ Q_m.out).mono ?_
    rw [H1.out]
    rintro r9 w9 ⟨rfl, h9⟩
    replace h9 := h9.symm
    subst h9
    go_wp2_with fail
    refine (spec_gcd _ _ x m _ Q_x.out Q_m.out B_x.out B_m.out).mono ?_
    rintro e w1 ⟨v_g, rfl, o_g, bw1⟩
    obtain ⟨a_g, c_g, rfl⟩ := o_g.slice
    replace Q_x := Lib.hid (rowOf_below Q_x.out bw1)
    replace Q_m := Lib.hid (rowOf_below Q_m.out bw1)
    have Q_g := Lib.hid o_g.row
    clear o_g
    replace B := Lib.hid (B.out.trans (bw1.mono B.out.size))
    replace BB := Lib.hid (BB.out.trans (bw1.mono BB.out.size))
    clear bw1
    go_wp2_with fail
    refine (spec_isOne _ (Nat.gcd x m) _ Q_g.out).mono ?_
    rw [H2.out]
    rintro r9 w9 ⟨rfl, h9⟩
    replace h9 := h9.symm
    subst h9
    have hqx := Q_x.out
    rw [TX.out] at hqx
    have hqm := Q_m.out
    rw [TY.out] at hqm
    have Q_X := Lib.hid hqx
    have Q_Y := Lib.hid hqm
    clear hqx hqm
    obtain ⟨a_X, c_X, hvX⟩ := rowOf_form Q_X.out
    subst hvX
    try rw [TL.out]
    try rw [TL.out] at Q_Y
    skip
    go_wp2_with fail
    refine (spec_makeN b _ XX _ Q_X.out (by have := KX.out; exact Nat.lt_of_lt_of_le this (pw_mono (by omega)))).mono ?_
    rintro e w2 ⟨v_k, rfl, o_k, bw2⟩
    obtain ⟨a_k, c_k, rfl⟩ := o_k.slice
    replace Q_x := Lib.hid (rowOf_below Q_x.out bw2)
    replace Q_m := Lib.hid (rowOf_below Q_m.out bw2)
    replace Q_g := Lib.hid (rowOf_below Q_g.out bw2)
    replace Q_X := Lib.hid (rowOf_below Q_X.out bw2)
    replace Q_Y := Lib.hid (rowOf_below Q_Y.out bw2)
    have O_k := Lib.hid (o_k.base BB.out.size)
    clear o_k
    replace B := Lib.hid (B.out.trans (bw2.mono B.out.size))
    replace BB := Lib.hid (BB.out.trans (bw2.mono BB.out.size))
    clear bw2
    have hln : ([] : List Int).length + (limI YY).length ≤ 1099511627776 := by have := (nlen_le_iff _ _).2 KY.out; rw [limI_length]; simp; omega
    have HL := Lib.hid (OwnI.lit0 w2)
    have HR2 := Lib.hid (rowOf_below Q_Y.out ((Below.refl _ _).alloc (Nat.le_refl _) (.cells #[] 3)))
    have FIN : Hid (∀ (v' : Value) (wz : World), OwnI wz w2.heap.size v' ([] ++ limI YY) → (w2.alloc (.cells #[] 3)).grownBy wz (some w2.heap.size) → (∃ a c, v' = .slice a (limI YY).length c) ∧ Rx wz w.heap.size 34 false (.slice none 0 0) (.slice none 0 0) ∧ OwnR wz W0.heap.size (.slice a_k (limI XX).length c_k) (limI XX) v' (limI YY) ∧ Below w.heap.size w wz) := fun v' wz h1 hg => by
     rw [List.nil_append] at h1
     have hsz := BB.out.size; have hs0 := SZ.out; have hlt := O_k.out.lt
     refine ⟨h1.slice, ((D_r.out.below BB.out).alloc _).kept hg (fun e => by injection e with e; omega), ⟨(O_k.out.alloc _).other hg (fun g g' e1 e2 e3 => by injection e2 with e2; have := (hlt g e1).2; omega), h1.base hsz, fun g g' e1 e2 e3 => by have := (hlt g e1).2; have := (h1.lt g' e2).1; omega⟩, (B.out.alloc B.out.size _).grown hg (by have := B.out.size; simp; omega) (fun g e => by injection e with e; omega)⟩
    go_wp2_with (at_builtin; refine append_ints rfl _ _ 30 Tryz.underlying30 rfl _ _ _ [] (limI YY) rfl HL.out rfl HR2.out hln (by simp) ?_; intro v2 w2z h1 hg1; obtain ⟨⟨a2, c2, rfl⟩, hD, hO, hB⟩ := FIN.out _ _ h1 hg1; have k0 := hD.c0; have k1 := hD.c1; have k2 := hD.c2; have k3 := hD.f 0; have k4 := hD.f 1; have k5 := hD.f 2; have HD := Lib.hid hD; have HO := Lib.hid hO; have HB := Lib.hid hB; clear hD hO hB h1 hg1)
    obtain ⟨e1, e2⟩ := rat_end (b' := (b && decide (0 < XX))) HB.out HD.out HO.out (by decide) (by have := SZ.out; omega) (Nat.le_refl _) (.slice a_k (limI XX).length c_k) (.slice a2 (limI YY).length c2)
    have D8 := Rx.set3 (b' := (b && decide (0 < XX))) (v' := .slice a_k (limI XX).length c_k) (d' := .slice a2 (limI YY).length c2) HD.out
    have hc0 := D8.c0; have hc1 := D8.c1; have hc2 := D8.c2
    exact bodyPost_ret (v := .agg #[.bool (b && decide (0 < XX)), .slice a_k (limI XX).length c_k, .slice a2 (limI YY).length c2]) (by simp [results, Tryz.results126, go_sem, hc0, hc1, hc2]) rfl ⟨_, _, rfl, e1, e2⟩
 have H2 := Lib.hid (decide_eq_false hg1)
 clear hg1
 by_cases hX : XX < pw 24
 rotate_left
 ·have hk : okS XX YY = false := okS_no.2 (fun h => hX h.2.1)
  rw [(mk_no hk _).1, (mk_no hk false).2.1, (mk_no hk false).2.2]
  have hn : decide (24 < ((limI XX).length : Int)) = true := by have : ¬ nlen XX ≤ 24 := fun h => hX ((nlen_le_iff _ _).1 h); rw [limI_length]; simp; omega
  clear hk hX
  go_enter Tryz.func126, Tryz.ntmps126
  go_wp2_with fail
  obtain ⟨W0, hW0⟩ : ∃ x, x = (w.alloc (.cells #[.bool false, .slice none 0 0, .slice none 0 0] 34)) := ⟨_, rfl⟩
  have B := Lib.hid (show Below w.heap.size w W0 by rw [hW0]; exact ((Below.refl _ _).alloc (Nat.le_refl _) _))
  have D_r := Lib.hid (rx_at (show Rx W0 _ 34 (false) (.slice none 0 0) (.slice none 0 0) by rw [hW0]; exact Rx.new _ _ _ _ _) (show w.heap.size = _ by simp))
  have SZ := Lib.hid (show W0.heap.size = w.heap.size + 1 by rw [hW0]; simp)
  rw [← hW0]
  clear hW0
  have BB := Lib.hid (Below.refl W0.heap.size W0)
  refine (spec_trimR _ x _ W0 (row_limN (rowOf_below RA_x.out B.out)) (Nat.le_refl _)).mono ?_
  rintro r9 w9 ⟨v_x, rfl, hqx, h9⟩
  replace h9 := h9.symm
  subst h9
  have Q_x := Lib.hid hqx
  clear hqx
  go_wp2_with fail
  refine (spec_trimR _ m _ _ (row_limN (rowOf_below RA_m.out B.out)) (Nat.le_refl _)).mono ?_
  rintro r9 w9 ⟨v_m, rfl, hqm, h9⟩
  replace h9 := h9.symm
  subst h9
  obtain ⟨a_m, c_m, rfl⟩ := rowOf_form hqm
  rw [limI_length] at hqm ⊢
  have Q_m := Lib.hid hqm
  clear hqm
  go_wp2_with fail
  refine (spec_isOne _ m _ Q_m.out).mono ?_
  rw [H1.out]
  rintro r9 w9 ⟨rfl, h9⟩
  replace h9 := h9.symm
  subst h9
  go_wp2_with fail
  refine (spec_gcd _ _ x m _ Q_x.out Q_m.out B_x.out B_m.out).mono ?_
  rintro e w1 ⟨v_g, rfl, o_g, bw1⟩
  obtain ⟨a_g, c_g, rfl⟩ := o_g.slice
  replace Q_x := Lib.hid (rowOf_below Q_x.out bw1)
  replace Q_m := Lib.hid (rowOf_below Q_m.out bw1)
  have Q_g := Lib.hid o_g.row
  clear o_g
  replace B := Lib.hid (B.out.trans (bw1.mono B.out.size))
  replace BB := Lib.hid (BB.out.trans (bw1.mono BB.out.size))
  clear bw1
  go_wp2_with fail
  refine (spec_isOne _ (Nat.gcd x m) _ Q_g.out).mono ?_
  rw [H2.out]
  rintro r9 w9 ⟨rfl, h9⟩
  replace h9 := h9.symm
  subst h9
  go_wp2_with fail
  refine (spec_div _ _ x (Nat.gcd x m) _ Q_x.out Q_g.out GP.out (by have := B_x.out; omega) (by have := B_g.out; omega)).mono ?_
  rintro e w2 ⟨v_X, v_u, rfl, o_X, o_u, ap, bw2⟩
  obtain ⟨a_X, c_X, rfl⟩ := o_X.slice
  clear o_u ap
  rw [show x / Nat.gcd x m = XX from EX.out] at *
  replace Q_x := Lib.hid (rowOf_below Q_x.out bw2)
  replace Q_m := Lib.hid (rowOf_below Q_m.out bw2)
  replace Q_g := Lib.hid (rowOf_below Q_g.out bw2)
  have Q_X := Lib.hid o_X.row
  clear o_X
  replace B := Lib.hid (B.out.trans (bw2.mono B.out.size))
  replace BB := Lib.hid (BB.out.trans (bw2.mono BB.out.size))
  clear bw2
  go_wp2_with fail
  refine (spec_div _ _ m (Nat.gcd x m) _ Q_m.out Q_g.out GP.out (by have := B_m.out; omega) (by have := B_g.out; omega)).mono ?_
  rintro e w3 ⟨v_Y, v_u, rfl, o_Y, o_u, ap, bw3⟩
  obtain ⟨a_Y, c_Y, rfl⟩ := o_Y.slice
  clear o_u ap
  rw [show m / Nat.gcd x m = YY from EY.out] at *
  replace Q_x := Lib.hid (rowOf_below Q_x.out bw3)
  replace Q_m := Lib.hid (rowOf_below Q_m.out bw3)
  replace Q_g := Lib.hid (rowOf_below Q_g.out bw3)
  replace Q_X := Lib.hid (rowOf_below Q_X.out bw3)
  have Q_Y := Lib.hid o_Y.row
  clear o_Y
  replace B := Lib.hid (B.out.trans (bw3.mono B.out.size))
  replace BB := Lib.hid (BB.out.trans (bw3.mono BB.out.size))
  clear bw3
  skip
  have c0_r := (D_r.out.below BB.out).c0
  have c1_r := (D_r.out.below BB.out).c1
  have c2_r := (D_r.out.below BB.out).c2
  have f0_r := (D_r.out.below BB.out).f 0
  have f1_r := (D_r.out.below BB.out).f 1
  have f2_r := (D_r.out.below BB.out).f 2
  go_wp2
  obtain ⟨e1, e2⟩ := rat_end (b' := false) B.out (D_r.out.below BB.out) (OwnR.nil _ W0.heap.size) (by decide) (by have := SZ.out; omega) (by omega) (.slice none 0 0) (.slice none 0 0)
  have D8 := Rx.set3 (b' := false) (v' := .slice none 0 0) (d' := .slice none 0 0) (D_r.out.below BB.out)
  have hc0 := D8.c0; have hc1 := D8.c1; have hc2 := D8.c2
  exact bodyPost_ret (v := .agg #[.bool false, .slice none 0 0, .slice none 0 0]) (by simp [results, Tryz.results126, go_sem, hc0, hc1, hc2]) rfl ⟨_, _, rfl, e1, e2⟩
 ·have hn : decide (24 < ((limI XX).length : Int)) = false := by have := (nlen_le_iff _ _).2 hX; rw [limI_length]; simp; omega
  by_cases hY : YY < pw 24
  rotate_left
  ·have hk : okS XX YY = false := okS_no.2 (fun h => hY h.2.2)
   rw [(mk_no hk _).1, (mk_no hk false).2.1, (mk_no hk false).2.2]
   have hn2 : decide (24 < ((limI YY).length : Int)) = true := by have : ¬ nlen YY ≤ 24 := fun h => hY ((nlen_le_iff _ _).1 h); rw [limI_length]; simp; omega
   clear hk hX hY
   go_enter Tryz.func126, Tryz.ntmps126
   go_wp2_with fail
   obtain ⟨W0, hW0⟩ : ∃ x, x = (w.alloc (.cells #[.bool false, .slice none 0 0, .slice none 0 0] 34)) := ⟨_, rfl⟩
   have B := Lib.hid (show Below w.heap.size w W0 by rw [hW0]; exact ((Below.refl _ _).alloc (Nat.le_refl _) _))
   have D_r := Lib.hid (rx_at (show Rx W0 _ 34 (false) (.slice none 0 0) (.slice none 0 0) by rw [hW0]; exact Rx.new _ _ _ _ _) (show w.heap.size = _ by simp))
   have SZ := Lib.hid (show W0.heap.size = w.heap.size + 1 by rw [hW0]; simp)
   rw [← hW0]
   clear hW0
   have BB := Lib.hid (Below.refl W0.heap.size W0)
   refine (spec_trimR _ x _ W0 (row_limN (rowOf_below RA_x.out B.out)) (Nat.le_refl _)).mono ?_
   rintro r9 w9 ⟨v_x, rfl, hqx, h9⟩
   replace h9 := h9.symm
   subst h9
   have Q_x := Lib.hid hqx
   clear hqx
   go_wp2_with fail
   refine (spec_trimR _ m _ _ (row_limN (rowOf_below RA_m.out B.out)) (Nat.le_refl _)).mono ?_
   rintro r9 w9 ⟨v_m, rfl, hqm, h9⟩
   replace h9 := h9.symm
   subst h9
   obtain ⟨a_m, c_m, rfl⟩ := rowOf_form hqm
   rw [limI_length] at hqm ⊢
   have Q_m := Lib.hid hqm
   clear hqm
   go_wp2_with fail
   refine (spec_isOne _ m _ Q_m.out).mono ?_
   rw [H1.out]
   rintro r9 w9 ⟨rfl, h9⟩
   replace h9 := h9.symm
   subst h9
   go_wp2_with fail
   refine (spec_gcd _ _ x m _ Q_x.out Q_m.out B_x.out B_m.out).mono ?_
   rintro e w1 ⟨v_g, rfl, o_g, bw1⟩
   obtain ⟨a_g, c_g, rfl⟩ := o_g.slice
   replace Q_x := Lib.hid (rowOf_below Q_x.out bw1)
   replace Q_m := Lib.hid (rowOf_below Q_m.out bw1)
   have Q_g := Lib.hid o_g.row
   clear o_g
   replace B := Lib.hid (B.out.trans (bw1.mono B.out.size))
   replace BB := Lib.hid (BB.out.trans (bw1.mono BB.out.size))
   clear bw1
   go_wp2_with fail
   refine (spec_isOne _ (Nat.gcd x m) _ Q_g.out).mono ?_
   rw [H2.out]
   rintro r9 w9 ⟨rfl, h9⟩
   replace h9 := h9.symm
   subst h9
   go_wp2_with fail
   refine (spec_div _ _ x (Nat.gcd x m) _ Q_x.out Q_g.out GP.out (by have := B_x.out; omega) (by have := B_g.out; omega)).mono ?_
   rintro e w2 ⟨v_X, v_u, rfl, o_X, o_u, ap, bw2⟩
   obtain ⟨a_X, c_X, rfl⟩ := o_X.slice
   clear o_u ap
   rw [show x / Nat.gcd x m = XX from EX.out] at *
   replace Q_x := Lib.hid (rowOf_below Q_x.out bw2)
   replace Q_m := Lib.hid (rowOf_below Q_m.out bw2)
   replace Q_g := Lib.hid (rowOf_below Q_g.out bw2)
   have Q_X := Lib.hid o_X.row
   clear o_X
   replace B := Lib.hid (B.out.trans (bw2.mono B.out.size))
   replace BB := Lib.hid (BB.out.trans (bw2.mono BB.out.size))
   clear bw2
   go_wp2_with fail
   refine (spec_div _ _ m (Nat.gcd x m) _ Q_m.out Q_g.out GP.out (by have := B_m.out; omega) (by have := B_g.out; omega)).mono ?_
   rintro e w3 ⟨v_Y, v_u, rfl, o_Y, o_u, ap, bw3⟩
   obtain ⟨a_Y, c_Y, rfl⟩ := o_Y.slice
   clear o_u ap
   rw [show m / Nat.gcd x m = YY from EY.out] at *
   replace Q_x := Lib.hid (rowOf_below Q_x.out bw3)
   replace Q_m := Lib.hid (rowOf_below Q_m.out bw3)
   replace Q_g := Lib.hid (rowOf_below Q_g.out bw3)
   replace Q_X := Lib.hid (rowOf_below Q_X.out bw3)
   have Q_Y := Lib.hid o_Y.row
   clear o_Y
   replace B := Lib.hid (B.out.trans (bw3.mono B.out.size))
   replace BB := Lib.hid (BB.out.trans (bw3.mono BB.out.size))
   clear bw3
   skip
   have c0_r := (D_r.out.below BB.out).c0
   have c1_r := (D_r.out.below BB.out).c1
   have c2_r := (D_r.out.below BB.out).c2
   have f0_r := (D_r.out.below BB.out).f 0
   have f1_r := (D_r.out.below BB.out).f 1
   have f2_r := (D_r.out.below BB.out).f 2
   go_wp2
   obtain ⟨e1, e2⟩ := rat_end (b' := false) B.out (D_r.out.below BB.out) (OwnR.nil _ W0.heap.size) (by decide) (by have := SZ.out; omega) (by omega) (.slice none 0 0) (.slice none 0 0)
   have D8 := Rx.set3 (b' := false) (v' := .slice none 0 0) (d' := .slice none 0 0) (D_r.out.below BB.out)
   have hc0 := D8.c0; have hc1 := D8.c1; have hc2 := D8.c2
   exact bodyPost_ret (v := .agg #[.bool false, .slice none 0 0, .slice none 0 0]) (by simp [results, Tryz.results126, go_sem, hc0, hc1, hc2]) rfl ⟨_, _, rfl, e1, e2⟩
  ·have hn2 : decide (24 < ((limI YY).length : Int)) = false := by have := (nlen_le_iff _ _).2 hY; rw [limI_length]; simp; omega
   have hk : okS XX YY = true := okS_iff.2 ⟨PD.out, hX, hY⟩
   rw [(mk_yes hk _).1, (mk_yes hk false).2.1, (mk_yes hk false).2.2]
   have KX := Lib.hid hX
   have KY := Lib.hid hY
   clear hk hX hY
   go_enter Tryz.func126, Tryz.ntmps126
   go_wp2_with fail
   obtain ⟨W0, hW0⟩ : ∃ x, x = (w.alloc (.cells #[.bool false, .slice none 0 0, .slice none 0 0] 34)) := ⟨_, rfl⟩
   have B := Lib.hid (show Below w.heap.size w W0 by rw [hW0]; exact ((Below.refl _ _).alloc (Nat.le_refl _) _))
   have D_r := Lib.hid (rx_at (show Rx W0 _ 34 (false) (.slice none 0 0) (.slice none 0 0) by rw [hW0]; exact Rx.new _ _ _ _ _) (show w.heap.size = _ by simp))
   have SZ := Lib.hid (show W0.heap.size = w.heap.size + 1 by rw [hW0]; simp)
   rw [← hW0]
   clear hW0
   have BB := Lib.hid (Below.refl W0.heap.size W0)
   refine (spec_trimR _ x _ W0 (row_limN (rowOf_below RA_x.out B.out)) (Nat.le_refl _)).mono ?_
   rintro r9 w9 ⟨v_x, rfl, hqx, h9⟩
   replace h9 := h9.symm
   subst h9
   have Q_x := Lib.hid hqx
   clear hqx
   go_wp2_with fail
   refine (spec_trimR _ m _ _ (row_limN (rowOf_below RA_m.out B.out)) (Nat.le_refl _)).mono ?_
   rintro r9 w9 ⟨v_m, rfl, hqm, h9⟩
   replace h9 := h9.symm
   subst h9
   obtain ⟨a_m, c_m, rfl⟩ := rowOf_form hqm
   rw [limI_length] at hqm ⊢
   have Q_m := Lib.hid hqm
   clear hqm
   go_wp2_with fail
   refine (spec_isOne _ m _ Q_m.out).mono ?_
   rw [H1.out]
   rintro r9 w9 ⟨rfl, h9⟩
   replace h9 := h9.symm
   subst h9
   go_wp2_with fail
   refine (spec_gcd _ _ x m _ Q_x.out Q_m.out B_x.out B_m.out).mono ?_
   rintro e w1 ⟨v_g, rfl, o_g, bw1⟩
   obtain ⟨a_g, c_g, rfl⟩ := o_g.slice
   replace Q_x := Lib.hid (rowOf_below Q_x.out bw1)
   replace Q_m := Lib.hid (rowOf_below Q_m.out bw1)
   have Q_g := Lib.hid o_g.row
   clear o_g
   replace B := Lib.hid (B.out.trans (bw1.mono B.out.size))
   replace BB := Lib.hid (BB.out.trans (bw1.mono BB.out.size))
   clear bw1
   go_wp2_with fail
   refine (spec_isOne _ (Nat.gcd x m) _ Q_g.out).mono ?_
   rw [H2.out]
   rintro r9 w9 ⟨rfl, h9⟩
   replace h9 := h9.symm
   subst h9
   go_wp2_with fail
   refine (spec_div _ _ x (Nat.gcd x m) _ Q_x.out Q_g.out GP.out (by have := B_x.out; omega) (by have := B_g.out; omega)).mono ?_
   rintro e w2 ⟨v_X, v_u, rfl, o_X, o_u, ap, bw2⟩
   obtain ⟨a_X, c_X, rfl⟩ := o_X.slice
   clear o_u ap
   rw [show x / Nat.gcd x m = XX from EX.out] at *
   replace Q_x := Lib.hid (rowOf_below Q_x.out bw2)
   replace Q_m := Lib.hid (rowOf_below Q_m.out bw2)
   replace Q_g := Lib.hid (rowOf_below Q_g.out bw2)
   have Q_X := Lib.hid o_X.row
   clear o_X
   replace B := Lib.hid (B.out.trans (bw2.mono B.out.size))
   replace BB := Lib.hid (BB.out.trans (bw2.mono BB.out.size))
   clear bw2
   go_wp2_with fail
   refine (spec_div _ _ m (Nat.gcd x m) _ Q_m.out Q_g.out GP.out (by have := B_m.out; omega) (by have := B_g.out; omega)).mono ?_
   rintro e w3 ⟨v_Y, v_u, rfl, o_Y, o_u, ap, bw3⟩
   obtain ⟨a_Y, c_Y, rfl⟩ := o_Y.slice
   clear o_u ap
   rw [show m / Nat.gcd x m = YY from EY.out] at *
   replace Q_x := Lib.hid (rowOf_below Q_x.out bw3)
   replace Q_m := Lib.hid (rowOf_below Q_m.out bw3)
   replace Q_g := Lib.hid (rowOf_below Q_g.out bw3)
   replace Q_X := Lib.hid (rowOf_below Q_X.out bw3)
   have Q_Y := Lib.hid o_Y.row
   clear o_Y
   replace B := Lib.hid (B.out.trans (bw3.mono B.out.size))
   replace BB := Lib.hid (BB.out.trans (bw3.mono BB.out.size))
   clear bw3
   skip
   go_wp2_with fail
   refine (spec_makeN b _ XX _ Q_X.out (by have := KX.out; exact Nat.lt_of_lt_of_le this (pw_mono (by omega)))).mono ?_
   rintro e w4 ⟨v_k, rfl, o_k, bw4⟩
   obtain ⟨a_k, c_k, rfl⟩ := o_k.slice
   replace Q_x := Lib.hid (rowOf_below Q_x.out bw4)
   replace Q_m := Lib.hid (rowOf_below Q_m.out bw4)
   replace Q_g := Lib.hid (rowOf_below Q_g.out bw4)
   replace Q_X := Lib.hid (rowOf_below Q_X.out bw4)
   replace Q_Y := Lib.hid (rowOf_below Q_Y.out bw4)
   have O_k := Lib.hid (o_k.base BB.out.size)
   clear o_k
   replace B := Lib.hid (B.out.trans (bw4.mono B.out.size))
   replace BB := Lib.hid (BB.out.trans (bw4.mono BB.out.size))
   clear bw4
   have hln : ([] : List Int).length + (limI YY).length ≤ 1099511627776 := by have := (nlen_le_iff _ _).2 KY.out; rw [limI_length]; simp; omega
   have HL := Lib.hid (OwnI.lit0 w4)
   have HR2 := Lib.hid (rowOf_below Q_Y.out ((Below.refl _ _).alloc (Nat.le_refl _) (.cells #[] 3)))
   have FIN : Hid (∀ (v' : Value) (wz : World), OwnI wz w4.heap.size v' ([] ++ limI YY) → (w4.alloc (.cells #[] 3)).grownBy wz (some w4.heap.size) → (∃ a c, v' = .slice a (limI YY).length c) ∧ Rx wz w.heap.size 34 false (.slice none 0 0) (.slice none 0 0) ∧ OwnR wz W0.heap.size (.slice a_k (limI XX).length c_k) (limI XX) v' (limI YY) ∧ Below w.heap.size w wz) := fun v' wz h1 hg => by
    rw [List.nil_append] at h1
    have hsz := BB.out.size; have hs0 := SZ.out; have hlt := O_k.out.lt
    refine ⟨h1.slice, ((D_r.out.below BB.out).alloc _).kept hg (fun e => by injection e with e; omega), ⟨(O_k.out.alloc _).other hg (fun g g' e1 e2 e3 => by injection e2 with e2; have := (hlt g e1).2; omega), h1.base hsz, fun g g' e1 e2 e3 => by have := (hlt g e1).2; have := (h1.lt g' e2).1; omega⟩, (B.out.alloc B.out.size _).grown hg (by have := B.out.size; simp; omega) (fun g e => by injection e with e; omega)⟩
   go_wp2_with (at_builtin; refine append_ints rfl _ _ 30 Tryz.underlying30 rfl _ _ _ [] (limI YY) rfl HL.out rfl HR2.out hln (by simp) ?_; intro v2 w2z h1 hg1; obtain ⟨⟨a2, c2, rfl⟩, hD, hO, hB⟩ := FIN.out _ _ h1 hg1; have k0 := hD.c0; have k1 := hD.c1; have k2 := hD.c2; have k3 := hD.f 0; have k4 := hD.f 1; have k5 := hD.f 2; have HD := Lib.hid hD; have HO := Lib.hid hO; have HB := Lib.hid hB; clear hD hO hB h1 hg1)
   obtain ⟨e1, e2⟩ := rat_end (b' := (b && decide (0 < XX))) HB.out HD.out HO.out (by decide) (by have := SZ.out; omega) (Nat.le_refl _) (.slice a_k (limI XX).length c_k) (.slice a2 (limI YY).length c2)
   have D8 := Rx.set3 (b' := (b && decide (0 < XX))) (v' := .slice a_k (limI XX).length c_k) (d' := .slice a2 (limI YY).length c2) HD.out
   have hc0 := D8.c0; have hc1 := D8.c1; have hc2 := D8.c2
   exact bodyPost_ret (v := .agg #[.bool (b && decide (0 < XX)), .slice a_k (limI XX).length c_k, .slice a2 (limI YY).length c2]) (by simp [results, Tryz.results126, go_sem, hc0, hc1, hc2]) rfl ⟨_, _, rfl, e1, e2⟩
end Go.Proofs.YtlepgkkpopjgoaaGreat
namespace Go.Proofs.YtlepgkkpopjgoaaGreat
open Go.RowKit Go.WideShapes Go.ChangeShapes
set_option linter.unusedVariables false
set_option linter.unusedSimpArgs false
theorem sgAdd_norm {b0 b1 : Bool} {m n : Nat} : (sgAddB (b0 && decide (0 < m)) m (b1 && decide (0 < n)) n && decide (0 < sgAddN (b0 && decide (0 < m)) m (b1 && decide (0 < n)) n)) = (sgAddB b0 m b1 n && decide (0 < sgAddN b0 m b1 n)) ∧ sgAddN (b0 && decide (0 < m)) m (b1 && decide (0 < n)) n = sgAddN b0 m b1 n := by
 rcases Nat.eq_zero_or_pos m with rfl | hm
 ·rcases Nat.eq_zero_or_pos n with rfl | hn
  ·unfold sgAddB sgAddN; cases b0 <;> cases b1 <;> simp
  ·have : decide (0 < n) = true := decide_eq_true hn
   unfold sgAddB sgAddN; rw [this]; cases b0 <;> cases b1 <;> simp <;> (repeat (split <;> simp_all <;> try omega)) <;> (try (intros; omega))
 ·have h1 : decide (0 < m) = true := decide_eq_true hm
  rcases Nat.eq_zero_or_pos n with rfl | hn
  ·unfold sgAddB sgAddN; rw [h1]; cases b0 <;> cases b1 <;> simp
  ·have h2 : decide (0 < n) = true := decide_eq_true hn
   rw [h1, h2, Bool.and_true, Bool.and_true]; exact ⟨rfl, rfl⟩
theorem mkB_sg {s : Bool} {N M D : Nat} (hM : 0 < M) : mkB (s && decide (0 < N)) (lowX N M) D = mkB s (lowX N M) D := by
 unfold mkB
 have h : (0 < lowX N M) ↔ 0 < N := (div_pos_iff (Nat.gcd_dvd_left N M) (gcd_pos' hM)).symm
 congr 1
 by_cases h0 : 0 < N
 ·rw [decide_eq_true h0, decide_eq_true (h.2 h0)]; simp
 ·rw [decide_eq_false h0, decide_eq_false (fun h9 => h0 (h.1 h9))]; simp
theorem mkB_sgA {s : Bool} {N M : Nat} : mkB (s && decide (0 < N)) (lowX N M) (lowD N M) = mkB s (lowX N M) (lowD N M) := by
 rcases Nat.eq_zero_or_pos M with rfl | hM
 ·have hk : okS (lowX N 0) (lowD N 0) = false := by unfold lowD; rw [Nat.zero_div]; exact okS_zero _
  rw [(mk_no hk _).1, (mk_no hk _).1]
 ·exact mkB_sg hM
set_option maxHeartbeats 4000000 in
theorem spec_addA (b0 : Bool) (v0 : Value) (x : Nat) (d0 : Value) (d : Nat) (b1 : Bool) (v1 : Value) (y : Nat) (d1 : Value) (e : Nat) (w : World) (h0 : RowR w v0 (limI x) d0 (limI d)) (h1 : RowR w v1 (limI y) d1 (limI e))
  (hx : x < pw 24) (hd : d < pw 24) (hy : y < pw 24) (he : e < pw 24) :
  Calls Tryz.prog 178 #[.agg #[.bool b0, v0, d0], .agg #[.bool b1, v1, d1]] w fun r w' => ∃ v dd, r = .returned (.agg #[.bool (mkB (sgAddB b0 (x * e) b1 (y * d)) (lowX (sgAddN b0 (x * e) b1 (y * d)) (d * e)) (lowD (sgAddN b0 (x * e) b1 (y * d)) (d * e))), v, dd]) ∧ OwnR w' w.heap.size v (mkZ (lowX (sgAddN b0 (x * e) b1 (y * d)) (d * e)) (lowD (sgAddN b0 (x * e) b1 (y * d)) (d * e))) dd (mkD (lowX (sgAddN b0 (x * e) b1 (y * d)) (d * e)) (lowD (sgAddN b0 (x * e) b1 (y * d)) (d * e))) ∧ Below w.heap.size w w' := by
 have PN := Lib.hid (show sgAddN b0 (x * e) b1 (y * d) < pw 60 from Nat.lt_trans (Nat.lt_of_le_of_lt (sgAddN_le _ _ _ _) (add48 (mul24 hx he) (mul24 hy hd))) (pw_lt (by omega)))
 have P1 := Lib.hid (Nat.lt_trans (mul24 hx he) (pw_lt (by omega : 48 < 60)))
 have P2 := Lib.hid (Nat.lt_trans (mul24 hy hd) (pw_lt (by omega : 48 < 60)))
 have P3 := Lib.hid (Nat.lt_trans (mul24 hd he) (pw_lt (by omega : 48 < 60)))
 have L1 := Lib.hid ((nlen_le_iff _ _).2 P1.out)
 have L2 := Lib.hid ((nlen_le_iff _ _).2 P2.out)
 have ESG := Lib.hid (mkB_sgA (s := sgAddB b0 (x * e) b1 (y * d)) (N := sgAddN b0 (x * e) b1 (y * d)) (M := d * e))
 have B_x := Lib.hid ((nlen_le_iff _ _).2 hx)
 have B_d := Lib.hid ((nlen_le_iff _ _).2 hd)
 have B_y := Lib.hid ((nlen_le_iff _ _).2 hy)
 have B_e := Lib.hid ((nlen_le_iff _ _).2 he)
 by_cases h11 : d = 1 ∧ e = 1
 rotate_left
 ·have HD1 := Lib.hid (show (decide (d = 1) && decide (e = 1)) = false by by_cases q : d = 1 <;> by_cases q' : e = 1 <;> simp_all)
  clear hx hd hy he h11
  have RA_x := Lib.hid h0.1
  have RA_d := Lib.hid h0.2
  obtain ⟨⟨a0, c0, rfl, z1, z2, z3⟩, ⟨e0, f0, rfl, z4, z5, z6⟩⟩ := h0
  clear z1 z2 z3 z4 z5 z6
  have RA_y := Lib.hid h1.1
  have RA_e := Lib.hid h1.2
  obtain ⟨⟨a1, c1, rfl, z1, z2, z3⟩, ⟨e1, f1, rfl, z4, z5, z6⟩⟩ := h1
  clear z1 z2 z3 z4 z5 z6
  have L_x := Lib.hid (limI_length x)
  rw [limI_length] at RA_x
  try rw [limI_length x]
  obtain ⟨nx, hnx⟩ : ∃ n, nlen x = n := ⟨_, rfl⟩
  rw [hnx] at RA_x L_x
  try rw [hnx]
  have N_x := Lib.hid hnx
  clear hnx
  have L_d := Lib.hid (limI_length d)
  rw [limI_length] at RA_d
  try rw [limI_length d]
  obtain ⟨nd, hnd⟩ : ∃ n, nlen d = n := ⟨_, rfl⟩
  rw [hnd] at RA_d L_d
  try rw [hnd]
  have N_d := Lib.hid hnd
  clear hnd
  have L_y := Lib.hid (limI_length y)
  rw [limI_length] at RA_y
  try rw [limI_length y]
  obtain ⟨ny, hny⟩ : ∃ n, nlen y = n := ⟨_, rfl⟩
  rw [hny] at RA_y L_y
  try rw [hny]
  have N_y := Lib.hid hny
  clear hny
  have L_e := Lib.hid (limI_length e)
  rw [limI_length] at RA_e
  try rw [limI_length e]
  obtain ⟨ne, hne⟩ : ∃ n, nlen e = n := ⟨_, rfl⟩
  rw [hne] at RA_e L_e
  try rw [hne]
  have N_e := Lib.hid hne
  clear hne
  rw [← ESG.out]
  obtain ⟨SS, hSS⟩ : ∃ s, (sgAddB b0 (x * e) b1 (y * d)) = s := ⟨_, rfl⟩
  obtain ⟨XX, hXX⟩ : ∃ s, (lowX (sgAddN b0 (x * e) b1 (y * d)) (d * e)) = s := ⟨_, rfl⟩
  obtain ⟨DD, hDD⟩ : ∃ s, (lowD (sgAddN b0 (x * e) b1 (y * d)) (d * e)) = s := ⟨_, rfl⟩
  rw [hSS, hXX, hDD]
  have HE := Lib.hid (And.intro hSS (And.intro hXX hDD))
  clear hSS hXX hDD
  obtain ⟨NN, hNN⟩ : ∃ s, (sgAddN b0 (x * e) b1 (y * d)) = s := ⟨_, rfl⟩
  have HNN := Lib.hid hNN
  rw [hNN] at PN HE ⊢
  clear hNN ESG
  cases hd1 : decide (d = 1) with
  | false =>
   have Q1 := Lib.hid hd1
   clear hd1 HD1
   go_enter Tryz.func178, Tryz.ntmps178
   go_wp2_with fail
   obtain ⟨W0, hW0⟩ : ∃ x, x = (((w.alloc (.cells #[.bool b0, .slice a0 nx c0, .slice e0 nd f0] 34)).alloc (.cells #[.bool b1, .slice a1 ny c1, .slice e1 ne f1] 34)).alloc (.cells #[.bool false, .slice none 0 0, .slice none 0 0] 34)) := ⟨_, rfl⟩
   have B := Lib.hid (show Below w.heap.size w W0 by rw [hW0]; exact ((((Below.refl _ _).alloc (Nat.le_refl _) _).alloc (by simp) _).alloc (by simp; omega) _))
   have D_x := Lib.hid (rx_at (show Rx W0 _ 34 (b0) (.slice a0 nx c0) (.slice e0 nd f0) by rw [hW0]; exact ((Rx.new _ _ _ _ _).alloc _).alloc _) (show w.heap.size = _ by simp))
   have D_y := Lib.hid (rx_at (show Rx W0 _ 34 (b1) (.slice a1 ny c1) (.slice e1 ne f1) by rw [hW0]; exact (Rx.new _ _ _ _ _).alloc _) (show (w.heap.size + 1) = _ by simp))
   have D_r := Lib.hid (rx_at (show Rx W0 _ 34 (false) (.slice none 0 0) (.slice none 0 0) by rw [hW0]; exact Rx.new _ _ _ _ _) (show (w.heap.size + 1 + 1) = _ by simp))
   have SZ := Lib.hid (show W0.heap.size = w.heap.size + 1 + 1 + 1 by rw [hW0]; simp)
   rw [← hW0]
   clear hW0
   have BB := Lib.hid (Below.refl W0.heap.size W0)
   refine (spec_isOne _ d _ (rowOf_below RA_d.out B.out)).mono ?_
   rw [Q1.out]
   rintro r9 w9 ⟨rfl, h9⟩
   replace h9 := h9.symm
   subst h9
   have K_t := Lib.hid (fun (W : World) (hW : Below W0.heap.size W0 W) => pre_own (R := fun v => v) (spec_mulAny _ _ x e W (rowOf_below (rowOf_below RA_x.out B.out) hW) (rowOf_below (rowOf_below RA_e.out B.out) hW) (by have := B_x.out; omega) (by have := B_e.out; omega)) hW)
   have K_k := Lib.hid (fun (W : World) (hW : Below W0.heap.size W0 W) (vv : Value) (hr : RowOf iV W vv (limI (x * e))) => pre_own (R := fun v => .agg #[.bool (b0 && decide (0 < x * e)), v]) (spec_makeN b0 vv (x * e) W hr P1.out) hW)
   have c0_x := (D_x.out.below BB.out).c0
   have c1_x := (D_x.out.below BB.out).c1
   have c2_x := (D_x.out.below BB.out).c2
   have c0_y := (D_y.out.below BB.out).c0
   have c1_y := (D_y.out.below BB.out).c1
   have c2_y := (D_y.out.below BB.out).c2
   go_upto_region 4 with fail
   have HS := Lib.hid (show ∀ W : World, Below W0.heap.size W0 W → (W.cell? ⟨w.heap.size, 0, none⟩ = some (.bool b0) ∧ W.cell? ⟨w.heap.size, 1, none⟩ = some (.slice a0 nx c0) ∧ W.cell? ⟨w.heap.size, 2, none⟩ = some (.slice e0 nd f0) ∧ W.cell? ⟨(w.heap.size + 1), 0, none⟩ = some (.bool b1) ∧ W.cell? ⟨(w.heap.size + 1), 1, none⟩ = some (.slice a1 ny c1) ∧ W.cell? ⟨(w.heap.size + 1), 2, none⟩ = some (.slice e1 ne f1)) from fun W hW => ⟨(hW.cell (p := ⟨w.heap.size, 0, none⟩) (D_x.out.below BB.out).lt).trans c0_x, (hW.cell (p := ⟨w.heap.size, 1, none⟩) (D_x.out.below BB.out).lt).trans c1_x, (hW.cell (p := ⟨w.heap.size, 2, none⟩) (D_x.out.below BB.out).lt).trans c2_x, (hW.cell (p := ⟨(w.heap.size + 1), 0, none⟩) (D_y.out.below BB.out).lt).trans c0_y, (hW.cell (p := ⟨(w.heap.size + 1), 1, none⟩) (D_y.out.below BB.out).lt).trans c1_y, (hW.cell (p := ⟨(w.heap.size + 1), 2, none⟩) (D_y.out.below BB.out).lt).trans c2_y⟩)
   have lt_x := (D_x.out.below BB.out).lt
   have lt_y := (D_y.out.below BB.out).lt
   go_cut [6] from 28 (fun q0 wc => ∃ (p : Nat) (a_n : Option Addr) (n_n c_n : Nat), q0 = .pointer (some ⟨p, 0, none⟩) ∧ Hid (Bx wc p 32 (b0 && decide (0 < x * e)) (.slice a_n n_n c_n)) ∧ Hid (OwnI wc W0.heap.size (.slice a_n n_n c_n) (limI (x * e))) ∧ Hid (W0.heap.size ≤ p) ∧ Hid (Below W0.heap.size W0 wc))
   case first =>
    go_region_held3 (fun w' => w'.cell? ⟨w.heap.size, 0, none⟩ = some (.bool b0) ∧ w'.cell? ⟨w.heap.size, 1, none⟩ = some (.slice a0 nx c0) ∧ w'.cell? ⟨w.heap.size, 2, none⟩ = some (.slice e0 nd f0) ∧ w'.cell? ⟨(w.heap.size + 1), 0, none⟩ = some (.bool b1) ∧ w'.cell? ⟨(w.heap.size + 1), 1, none⟩ = some (.slice a1 ny c1) ∧ w'.cell? ⟨(w.heap.size + 1), 2, none⟩ = some (.slice e1 ne f1)) (first | exact HS.out _ (by first | with_reducible exact Below.refl _ _ | with_reducible exact (Below.refl _ _).drew | with_reducible exact bb_t | with_reducible exact bb_k | with_reducible exact (Below.refl _ _).alloc (Nat.le_refl _) _ | with_reducible exact ((Below.refl _ _).alloc (Nat.le_refl _) _).drew | with_reducible exact bb_t.alloc bb_t.size _ | with_reducible exact bb_k.alloc bb_k.size _ | fail) | exact ⟨(cell_far (show w.heap.size ≠ _ from fun e => absurd pz (by omega)) _ _).trans ((HS.out _ (by first | with_reducible exact Below.refl _ _ | with_reducible exact (Below.refl _ _).drew | with_reducible exact bb_t | with_reducible exact bb_k | with_reducible exact (Below.refl _ _).alloc (Nat.le_refl _) _ | with_reducible exact ((Below.refl _ _).alloc (Nat.le_refl _) _).drew | with_reducible exact bb_t.alloc bb_t.size _ | with_reducible exact bb_k.alloc bb_k.size _ | fail)).1), (cell_far (show w.heap.size ≠ _ from fun e => absurd pz (by omega)) _ _).trans ((HS.out _ (by first | with_reducible exact Below.refl _ _ | with_reducible exact (Below.refl _ _).drew | with_reducible exact bb_t | with_reducible exact bb_k | with_reducible exact (Below.refl _ _).alloc (Nat.le_refl _) _ | with_reducible exact ((Below.refl _ _).alloc (Nat.le_refl _) _).drew | with_reducible exact bb_t.alloc bb_t.size _ | with_reducible exact bb_k.alloc bb_k.size _ | fail)).2.1), (cell_far (show w.heap.size ≠ _ from fun e => absurd pz (by omega)) _ _).trans ((HS.out _ (by first | with_reducible exact Below.refl _ _ | with_reducible exact (Below.refl _ _).drew | with_reducible exact bb_t | with_reducible exact bb_k | with_reducible exact (Below.refl _ _).alloc (Nat.le_refl _) _ | with_reducible exact ((Below.refl _ _).alloc (Nat.le_refl _) _).drew | with_reducible exact bb_t.alloc bb_t.size _ | with_reducible exact bb_k.alloc bb_k.size _ | fail)).2.2.1), (cell_far (show (w.heap.size + 1) ≠ _ from fun e => absurd pz (by omega)) _ _).trans ((HS.out _ (by first | with_reducible exact Below.refl _ _ | with_reducible exact (Below.refl _ _).drew | with_reducible exact bb_t | with_reducible exact bb_k | with_reducible exact (Below.refl _ _).alloc (Nat.le_refl _) _ | with_reducible exact ((Below.refl _ _).alloc (Nat.le_refl _) _).drew | with_reducible exact bb_t.alloc bb_t.size _ | with_reducible exact bb_k.alloc bb_k.size _ | fail)).2.2.2.1), (cell_far (show (w.heap.size + 1) ≠ _ from fun e => absurd pz (by omega)) _ _).trans ((HS.out _ (by first | with_reducible exact Below.refl _ _ | with_reducible exact (Below.refl _ _).drew | with_reducible exact bb_t | with_reducible exact bb_k | with_reducible exact (Below.refl _ _).alloc (Nat.le_refl _) _ | with_reducible exact ((Below.refl _ _).alloc (Nat.le_refl _) _).drew | with_reducible exact bb_t.alloc bb_t.size _ | with_reducible exact bb_k.alloc bb_k.size _ | fail)).2.2.2.2.1), (cell_far (show (w.heap.size + 1) ≠ _ from fun e => absurd pz (by omega)) _ _).trans ((HS.out _ (by first | with_reducible exact Below.refl _ _ | with_reducible exact (Below.refl _ _).drew | with_reducible exact bb_t | with_reducible exact bb_k | with_reducible exact (Below.refl _ _).alloc (Nat.le_refl _) _ | with_reducible exact ((Below.refl _ _).alloc (Nat.le_refl _) _).drew | with_reducible exact bb_t.alloc bb_t.size _ | with_reducible exact bb_k.alloc bb_k.size _ | fail)).2.2.2.2.2)⟩)
     (first
      | (go_at_call 135; refine (K_k.out _ (by first | with_reducible exact Below.refl _ _ | with_reducible exact (Below.refl _ _).drew | with_reducible exact bb_t | with_reducible exact bb_k | with_reducible exact (Below.refl _ _).alloc (Nat.le_refl _) _ | with_reducible exact ((Below.refl _ _).alloc (Nat.le_refl _) _).drew | with_reducible exact bb_t.alloc bb_t.size _ | with_reducible exact bb_k.alloc bb_k.size _ | fail) _ (by first | with_reducible exact o_t.row | with_reducible exact (o_t.alloc _).row)).mono ?_; rintro e w_k ⟨v_k, rfl, o_k, lo_k, bw_k, bb_k⟩; obtain ⟨a_k, c_k, rfl⟩ := o_k.slice; (try first | with_reducible (have o_t := o_t.below bw_k) | with_reducible (have o_t := (o_t.alloc _).below bw_k)); (try with_reducible (have dz := Bx.below dz bw_k; have pz := pz)); (try first | with_reducible (have dz := (show Bx w_k W0.heap.size 32 (false) (.slice none 0 0) from Bx.below (show Bx (World.drew (W0.alloc (.cells #[.bool false, .slice none 0 0] 32))) W0.heap.size 32 (false) (.slice none 0 0) from Bx.drew (Bx.new _ _ _ _)) bw_k); have pz : W0.heap.size ≤ W0.heap.size := Nat.le_refl _) | with_reducible (have dz := (show Bx w_k w_t.heap.size 32 (false) (.slice none 0 0) from Bx.below (Bx.new _ _ _ _) bw_k); have pz : W0.heap.size ≤ w_t.heap.size := bb_t.size)); (try (have y0 := dz.c0; have y1 := dz.c1; have x0 := dz.f0; have x1 := dz.f1)))
      | (go_at_call 127; refine (K_t.out _ (by first | with_reducible exact Below.refl _ _ | with_reducible exact (Below.refl _ _).drew | with_reducible exact bb_t | with_reducible exact bb_k | with_reducible exact (Below.refl _ _).alloc (Nat.le_refl _) _ | with_reducible exact ((Below.refl _ _).alloc (Nat.le_refl _) _).drew | with_reducible exact bb_t.alloc bb_t.size _ | with_reducible exact bb_k.alloc bb_k.size _ | fail)).mono ?_; rintro e w_t ⟨v_t, rfl, o_t, lo_t, bw_t, bb_t⟩; obtain ⟨a_t, c_t, rfl⟩ := o_t.slice; (try first | with_reducible (have o_k := o_k.below bw_t) | with_reducible (have o_k := (o_k.alloc _).below bw_t)); (try with_reducible (have dz := Bx.below dz bw_t; have pz := pz)); (try first | with_reducible (have dz := (show Bx w_t W0.heap.size 32 (false) (.slice none 0 0) from Bx.below (show Bx (World.drew (W0.alloc (.cells #[.bool false, .slice none 0 0] 32))) W0.heap.size 32 (false) (.slice none 0 0) from Bx.drew (Bx.new _ _ _ _)) bw_t); have pz : W0.heap.size ≤ W0.heap.size := Nat.le_refl _) | with_reducible (have dz := (show Bx w_t w_k.heap.size 32 (false) (.slice none 0 0) from Bx.below (Bx.new _ _ _ _) bw_t); have pz : W0.heap.size ≤ w_k.heap.size := bb_k.size)); (try (have y0 := dz.c0; have y1 := dz.c1; have x0 := dz.f0; have x1 := dz.f1))))
    all_goals go_wp2_with fail
    all_goals go_meet
    all_goals first
     | exact ⟨_, _, _, _, rfl, Lib.hid dz.set, Lib.hid (own_bx2 o_k dz (by decide) _ _), Lib.hid pz, Lib.hid ((bb_k.setCell pz _).setCell pz _)⟩
     | exact ⟨_, _, _, _, rfl, Lib.hid (Bx.new _ _ _ _), Lib.hid (o_k.alloc _), Lib.hid bb_k.size, Lib.hid (bb_k.alloc bb_k.size _)⟩
   clear c0_x c1_x c2_x
   clear c0_y c1_y c2_y
   clear HS lt_x lt_y
   obtain ⟨p_bl, a_bl, n_bl, c_bl, rfl, hD, hO, hp, hB⟩ := hcut
   obtain ⟨wc4, hwc⟩ : ∃ x, x = wc := ⟨_, rfl⟩
   simp only [← hwc] at *
   clear hwc
   have bw9 := hB.out
   have M_bl := hD
   have Q_qbl := Lib.hid hO.out.row
   clear hD hO hp K_t K_k
   replace B := Lib.hid (B.out.trans (bw9.mono B.out.size))
   replace BB := Lib.hid (BB.out.trans (bw9.mono BB.out.size))
   clear hB bw9
   have K_t := Lib.hid (fun (W : World) (hW : Below wc4.heap.size wc4 W) => pre_own (R := fun v => v) (spec_mulAny _ _ y d W (rowOf_below (rowOf_below RA_y.out B.out) hW) (rowOf_below (rowOf_below RA_d.out B.out) hW) (by have := B_y.out; omega) (by have := B_d.out; omega)) hW)
   have K_k := Lib.hid (fun (W : World) (hW : Below wc4.heap.size wc4 W) (vv : Value) (hr : RowOf iV W vv (limI (y * d))) => pre_own (R := fun v => .agg #[.bool (b1 && decide (0 < y * d)), v]) (spec_makeN b1 vv (y * d) W hr P2.out) hW)
   have c0_x := (D_x.out.below BB.out).c0
   have c1_x := (D_x.out.below BB.out).c1
   have c2_x := (D_x.out.below BB.out).c2
   have c0_y := (D_y.out.below BB.out).c0
   have c1_y := (D_y.out.below BB.out).c1
   have c2_y := (D_y.out.below BB.out).c2
   go_upto_region 5 with fail
   have HS := Lib.hid (show ∀ W : World, Below wc4.heap.size wc4 W → (W.cell? ⟨w.heap.size, 0, none⟩ = some (.bool b0) ∧ W.cell? ⟨w.heap.size, 1, none⟩ = some (.slice a0 nx c0) ∧ W.cell? ⟨w.heap.size, 2, none⟩ = some (.slice e0 nd f0) ∧ W.cell? ⟨(w.heap.size + 1), 0, none⟩ = some (.bool b1) ∧ W.cell? ⟨(w.heap.size + 1), 1, none⟩ = some (.slice a1 ny c1) ∧ W.cell? ⟨(w.heap.size + 1), 2, none⟩ = some (.slice e1 ne f1)) from fun W hW => ⟨(hW.cell (p := ⟨w.heap.size, 0, none⟩) (D_x.out.below BB.out).lt).trans c0_x, (hW.cell (p := ⟨w.heap.size, 1, none⟩) (D_x.out.below BB.out).lt).trans c1_x, (hW.cell (p := ⟨w.heap.size, 2, none⟩) (D_x.out.below BB.out).lt).trans c2_x, (hW.cell (p := ⟨(w.heap.size + 1), 0, none⟩) (D_y.out.below BB.out).lt).trans c0_y, (hW.cell (p := ⟨(w.heap.size + 1), 1, none⟩) (D_y.out.below BB.out).lt).trans c1_y, (hW.cell (p := ⟨(w.heap.size + 1), 2, none⟩) (D_y.out.below BB.out).lt).trans c2_y⟩)
   have lt_x := (D_x.out.below BB.out).lt
   have lt_y := (D_y.out.below BB.out).lt
   go_cut [7] from 38 (fun q0 wc => ∃ (p : Nat) (a_n : Option Addr) (n_n c_n : Nat), q0 = .pointer (some ⟨p, 0, none⟩) ∧ Hid (Bx wc p 32 (b1 && decide (0 < y * d)) (.slice a_n n_n c_n)) ∧ Hid (OwnI wc wc4.heap.size (.slice a_n n_n c_n) (limI (y * d))) ∧ Hid (wc4.heap.size ≤ p) ∧ Hid (Below wc4.heap.size wc4 wc))
   case first =>
    go_region_held3 (fun w' => w'.cell? ⟨w.heap.size, 0, none⟩ = some (.bool b0) ∧ w'.cell? ⟨w.heap.size, 1, none⟩ = some (.slice a0 nx c0) ∧ w'.cell? ⟨w.heap.size, 2, none⟩ = some (.slice e0 nd f0) ∧ w'.cell? ⟨(w.heap.size + 1), 0, none⟩ = some (.bool b1) ∧ w'.cell? ⟨(w.heap.size + 1), 1, none⟩ = some (.slice a1 ny c1) ∧ w'.cell? ⟨(w.heap.size + 1), 2, none⟩ = some (.slice e1 ne f1)) (first | exact HS.out _ (by first | with_reducible exact Below.refl _ _ | with_reducible exact (Below.refl _ _).drew | with_reducible exact bb_t | with_reducible exact bb_k | with_reducible exact (Below.refl _ _).alloc (Nat.le_refl _) _ | with_reducible exact ((Below.refl _ _).alloc (Nat.le_refl _) _).drew | with_reducible exact bb_t.alloc bb_t.size _ | with_reducible exact bb_k.alloc bb_k.size _ | fail) | exact ⟨(cell_far (show w.heap.size ≠ _ from fun e => absurd pz (by omega)) _ _).trans ((HS.out _ (by first | with_reducible exact Below.refl _ _ | with_reducible exact (Below.refl _ _).drew | with_reducible exact bb_t | with_reducible exact bb_k | with_reducible exact (Below.refl _ _).alloc (Nat.le_refl _) _ | with_reducible exact ((Below.refl _ _).alloc (Nat.le_refl _) _).drew | with_reducible exact bb_t.alloc bb_t.size _ | with_reducible exact bb_k.alloc bb_k.size _ | fail)).1), (cell_far (show w.heap.size ≠ _ from fun e => absurd pz (by omega)) _ _).trans ((HS.out _ (by first | with_reducible exact Below.refl _ _ | with_reducible exact (Below.refl _ _).drew | with_reducible exact bb_t | with_reducible exact bb_k | with_reducible exact (Below.refl _ _).alloc (Nat.le_refl _) _ | with_reducible exact ((Below.refl _ _).alloc (Nat.le_refl _) _).drew | with_reducible exact bb_t.alloc bb_t.size _ | with_reducible exact bb_k.alloc bb_k.size _ | fail)).2.1), (cell_far (show w.heap.size ≠ _ from fun e => absurd pz (by omega)) _ _).trans ((HS.out _ (by first | with_reducible exact Below.refl _ _ | with_reducible exact (Below.refl _ _).drew | with_reducible exact bb_t | with_reducible exact bb_k | with_reducible exact (Below.refl _ _).alloc (Nat.le_refl _) _ | with_reducible exact ((Below.refl _ _).alloc (Nat.le_refl _) _).drew | with_reducible exact bb_t.alloc bb_t.size _ | with_reducible exact bb_k.alloc bb_k.size _ | fail)).2.2.1), (cell_far (show (w.heap.size + 1) ≠ _ from fun e => absurd pz (by omega)) _ _).trans ((HS.out _ (by first | with_reducible exact Below.refl _ _ | with_reducible exact (Below.refl _ _).drew | with_reducible exact bb_t | with_reducible exact bb_k | with_reducible exact (Below.refl _ _).alloc (Nat.le_refl _) _ | with_reducible exact ((Below.refl _ _).alloc (Nat.le_refl _) _).drew | with_reducible exact bb_t.alloc bb_t.size _ | with_reducible exact bb_k.alloc bb_k.size _ | fail)).2.2.2.1), (cell_far (show (w.heap.size + 1) ≠ _ from fun e => absurd pz (by omega)) _ _).trans ((HS.out _ (by first | with_reducible exact Below.refl _ _ | with_reducible exact (Below.refl _ _).drew | with_reducible exact bb_t | with_reducible exact bb_k | with_reducible exact (Below.refl _ _).alloc (Nat.le_refl _) _ | with_reducible exact ((Below.refl _ _).alloc (Nat.le_refl _) _).drew | with_reducible exact bb_t.alloc bb_t.size _ | with_reducible exact bb_k.alloc bb_k.size _ | fail)).2.2.2.2.1), (cell_far (show (w.heap.size + 1) ≠ _ from fun e => absurd pz (by omega)) _ _).trans ((HS.out _ (by first | with_reducible exact Below.refl _ _ | with_reducible exact (Below.refl _ _).drew | with_reducible exact bb_t | with_reducible exact bb_k | with_reducible exact (Below.refl _ _).alloc (Nat.le_refl _) _ | with_reducible exact ((Below.refl _ _).alloc (Nat.le_refl _) _).drew | with_reducible exact bb_t.alloc bb_t.size _ | with_reducible exact bb_k.alloc bb_k.size _ | fail)).2.2.2.2.2)⟩)
     (first
      | (go_at_call 135; refine (K_k.out _ (by first | with_reducible exact Below.refl _ _ | with_reducible exact (Below.refl _ _).drew | with_reducible exact bb_t | with_reducible exact bb_k | with_reducible exact (Below.refl _ _).alloc (Nat.le_refl _) _ | with_reducible exact ((Below.refl _ _).alloc (Nat.le_refl _) _).drew | with_reducible exact bb_t.alloc bb_t.size _ | with_reducible exact bb_k.alloc bb_k.size _ | fail) _ (by first | with_reducible exact o_t.row | with_reducible exact (o_t.alloc _).row)).mono ?_; rintro e w_k ⟨v_k, rfl, o_k, lo_k, bw_k, bb_k⟩; obtain ⟨a_k, c_k, rfl⟩ := o_k.slice; (try first | with_reducible (have o_t := o_t.below bw_k) | with_reducible (have o_t := (o_t.alloc _).below bw_k)); (try with_reducible (have dz := Bx.below dz bw_k; have pz := pz)); (try first | with_reducible (have dz := (show Bx w_k wc4.heap.size 32 (false) (.slice none 0 0) from Bx.below (show Bx (World.drew (wc4.alloc (.cells #[.bool false, .slice none 0 0] 32))) wc4.heap.size 32 (false) (.slice none 0 0) from Bx.drew (Bx.new _ _ _ _)) bw_k); have pz : wc4.heap.size ≤ wc4.heap.size := Nat.le_refl _) | with_reducible (have dz := (show Bx w_k w_t.heap.size 32 (false) (.slice none 0 0) from Bx.below (Bx.new _ _ _ _) bw_k); have pz : wc4.heap.size ≤ w_t.heap.size := bb_t.size)); (try (have y0 := dz.c0; have y1 := dz.c1; have x0 := dz.f0; have x1 := dz.f1)))
      | (go_at_call 127; refine (K_t.out _ (by first | with_reducible exact Below.refl _ _ | with_reducible exact (Below.refl _ _).drew | with_reducible exact bb_t | with_reducible exact bb_k | with_reducible exact (Below.refl _ _).alloc (Nat.le_refl _) _ | with_reducible exact ((Below.refl _ _).alloc (Nat.le_refl _) _).drew | with_reducible exact bb_t.alloc bb_t.size _ | with_reducible exact bb_k.alloc bb_k.size _ | fail)).mono ?_; rintro e w_t ⟨v_t, rfl, o_t, lo_t, bw_t, bb_t⟩; obtain ⟨a_t, c_t, rfl⟩ := o_t.slice; (try first | with_reducible (have o_k := o_k.below bw_t) | with_reducible (have o_k := (o_k.alloc _).below bw_t)); (try with_reducible (have dz := Bx.below dz bw_t; have pz := pz)); (try first | with_reducible (have dz := (show Bx w_t wc4.heap.size 32 (false) (.slice none 0 0) from Bx.below (show Bx (World.drew (wc4.alloc (.cells #[.bool false, .slice none 0 0] 32))) wc4.heap.size 32 (false) (.slice none 0 0) from Bx.drew (Bx.new _ _ _ _)) bw_t); have pz : wc4.heap.size ≤ wc4.heap.size := Nat.le_refl _) | with_reducible (have dz := (show Bx w_t w_k.heap.size 32 (false) (.slice none 0 0) from Bx.below (Bx.new _ _ _ _) bw_t); have pz : wc4.heap.size ≤ w_k.heap.size := bb_k.size)); (try (have y0 := dz.c0; have y1 := dz.c1; have x0 := dz.f0; have x1 := dz.f1))))
    all_goals go_wp2_with fail
    all_goals go_meet
    all_goals first
     | exact ⟨_, _, _, _, rfl, Lib.hid dz.set, Lib.hid (own_bx2 o_k dz (by decide) _ _), Lib.hid pz, Lib.hid ((bb_k.setCell pz _).setCell pz _)⟩
     | exact ⟨_, _, _, _, rfl, Lib.hid (Bx.new _ _ _ _), Lib.hid (o_k.alloc _), Lib.hid bb_k.size, Lib.hid (bb_k.alloc bb_k.size _)⟩
   clear c0_x c1_x c2_x
   clear c0_y c1_y c2_y
   clear HS lt_x lt_y
   obtain ⟨p_br, a_br, n_br, c_br, rfl, hD, hO, hp, hB⟩ := hcut
   obtain ⟨wc5, hwc⟩ : ∃ x, x = wc := ⟨_, rfl⟩
   simp only [← hwc] at *
   clear hwc
   have bw9 := hB.out
   replace M_bl := Lib.hid (M_bl.out.below bw9)
   replace Q_qbl := Lib.hid (rowOf_below Q_qbl.out bw9)
   have M_br := hD
   have Q_qbr := Lib.hid hO.out.row
   clear hD hO hp K_t K_k
   replace B := Lib.hid (B.out.trans (bw9.mono B.out.size))
   replace BB := Lib.hid (BB.out.trans (bw9.mono BB.out.size))
   clear hB bw9
   have c0_bl := M_bl.out.c0
   have c1_bl := M_bl.out.c1
   have c0_br := M_br.out.c0
   have c1_br := M_br.out.c1
   go_wp2_with fail
   clear c0_bl c1_bl
   clear c0_br c1_br
   have hc9 := spec_addN (b0 && decide (0 < x * e)) _ (x * e) (b1 && decide (0 < y * d)) _ (y * d) wc5 Q_qbl.out Q_qbr.out (by have := L1.out; omega) (by have := L2.out; omega) (by rw [sgAdd_norm.2, HNN.out]; exact PN.out)
   rw [sgAdd_norm.1, sgAdd_norm.2, HNN.out, HE.out.1] at hc9
   refine (hc9).mono ?_
   rintro e w3 ⟨v_n, rfl, o_n, bw3⟩
   obtain ⟨a_n, c_n, rfl⟩ := o_n.slice
   replace M_bl := Lib.hid (M_bl.out.below bw3)
   replace Q_qbl := Lib.hid (rowOf_below Q_qbl.out bw3)
   replace M_br := Lib.hid (M_br.out.below bw3)
   replace Q_qbr := Lib.hid (rowOf_below Q_qbr.out bw3)
   have O_n := Lib.hid (o_n.base BB.out.size)
   clear o_n
   replace B := Lib.hid (B.out.trans (bw3.mono B.out.size))
   replace BB := Lib.hid (BB.out.trans (bw3.mono BB.out.size))
   clear bw3
   go_wp2_with fail
   obtain ⟨W5, hW5⟩ : ∃ X9, X9 = w3.alloc (.cells #[.bool (SS && decide (0 < NN)), .slice a_n (limI NN).length c_n] 32) := ⟨_, rfl⟩
   have M_s := Lib.hid (show Bx W5 w3.heap.size 32 (SS && decide (0 < NN)) (.slice a_n (limI NN).length c_n) by rw [hW5]; exact Bx.new _ _ _ _)
   replace O_n := Lib.hid (show OwnI W5 W0.heap.size _ _ by rw [hW5]; exact O_n.out.alloc _)
   have PS := Lib.hid (show W0.heap.size ≤ w3.heap.size from BB.out.size)
   replace BB := Lib.hid (show Below W0.heap.size W0 W5 by rw [hW5]; exact BB.out.alloc BB.out.size _)
   replace B := Lib.hid (show Below w.heap.size w W5 by rw [hW5]; exact B.out.alloc B.out.size _)
   rw [← hW5]
   clear hW5 M_bl M_br Q_qbl Q_qbr
   obtain ⟨ps, hps⟩ : ∃ p, w3.heap.size = p := ⟨_, rfl⟩
   rw [hps] at M_s PS ⊢
   clear hps
   have K_m := Lib.hid (fun (W : World) (hW : Below W5.heap.size W5 W) => pre_own (R := fun v => v) (spec_mulAny _ _ d e W (rowOf_below (rowOf_below RA_d.out B.out) hW) (rowOf_below (rowOf_below RA_e.out B.out) hW) (by have := B_d.out; omega) (by have := B_e.out; omega)) hW)
   have K_q := Lib.hid (fun (W : World) (hW : Below W5.heap.size W5 W) (vv : Value) (hr : RowOf iV W vv (limI (d * e))) => pre_rat ((by have h := spec_low (SS && decide (0 < NN)) _ NN vv (d * e) W (rowOf_below O_n.out.row hW) hr PN.out P3.out; rw [HE.out.2.1, HE.out.2.2] at h; exact h)) hW)
   have P9 := PS.out
   have SZ9 := SZ.out
   have c0_s := M_s.out.c0
   have c1_s := M_s.out.c1
   have c0_x := (D_x.out.below BB.out).c0
   have c1_x := (D_x.out.below BB.out).c1
   have c2_x := (D_x.out.below BB.out).c2
   have c0_y := (D_y.out.below BB.out).c0
   have c1_y := (D_y.out.below BB.out).c1
   have c2_y := (D_y.out.below BB.out).c2
   go_wp2_with fail
   have HS := Lib.hid (show ∀ W : World, Below W5.heap.size W5 W → (W.cell? ⟨ps, 0, none⟩ = some (.bool (SS && decide (0 < NN))) ∧ W.cell? ⟨ps, 1, none⟩ = some (.slice a_n (limI NN).length c_n) ∧ W.cell? ⟨w.heap.size, 0, none⟩ = some (.bool b0) ∧ W.cell? ⟨w.heap.size, 1, none⟩ = some (.slice a0 nx c0) ∧ W.cell? ⟨w.heap.size, 2, none⟩ = some (.slice e0 nd f0) ∧ W.cell? ⟨(w.heap.size + 1), 0, none⟩ = some (.bool b1) ∧ W.cell? ⟨(w.heap.size + 1), 1, none⟩ = some (.slice a1 ny c1) ∧ W.cell? ⟨(w.heap.size + 1), 2, none⟩ = some (.slice e1 ne f1)) from fun W hW => ⟨(hW.cell (p := ⟨ps, 0, none⟩) M_s.out.lt).trans c0_s, (hW.cell (p := ⟨ps, 1, none⟩) M_s.out.lt).trans c1_s, (hW.cell (p := ⟨w.heap.size, 0, none⟩) (D_x.out.below BB.out).lt).trans c0_x, (hW.cell (p := ⟨w.heap.size, 1, none⟩) (D_x.out.below BB.out).lt).trans c1_x, (hW.cell (p := ⟨w.heap.size, 2, none⟩) (D_x.out.below BB.out).lt).trans c2_x, (hW.cell (p := ⟨(w.heap.size + 1), 0, none⟩) (D_y.out.below BB.out).lt).trans c0_y, (hW.cell (p := ⟨(w.heap.size + 1), 1, none⟩) (D_y.out.below BB.out).lt).trans c1_y, (hW.cell (p := ⟨(w.heap.size + 1), 2, none⟩) (D_y.out.below BB.out).lt).trans c2_y⟩)
   have lt_s := M_s.out.lt
   have lt_x := (D_x.out.below BB.out).lt
   have lt_y := (D_y.out.below BB.out).lt
   have c0_r := (D_r.out.below BB.out).c0
   have c1_r := (D_r.out.below BB.out).c1
   have c2_r := (D_r.out.below BB.out).c2
   have f0_r := (D_r.out.below BB.out).f 0
   have f1_r := (D_r.out.below BB.out).f 1
   have f2_r := (D_r.out.below BB.out).f 2
   have HF := Lib.hid (show ∀ W : World, Below W5.heap.size W5 W → (W.cell? ⟨(w.heap.size + 1 + 1), 0, none⟩ = some (.bool false) ∧ W.cell? ⟨(w.heap.size + 1 + 1), 1, none⟩ = some (.slice none 0 0) ∧ W.cell? ⟨(w.heap.size + 1 + 1), 2, none⟩ = some (.slice none 0 0) ∧ W.frozen? ⟨(w.heap.size + 1 + 1), 0, none⟩ = false ∧ W.frozen? ⟨(w.heap.size + 1 + 1), 1, none⟩ = false ∧ W.frozen? ⟨(w.heap.size + 1 + 1), 2, none⟩ = false) from fun W hW => ⟨(hW.cell (p := ⟨(w.heap.size + 1 + 1), 0, none⟩) (D_r.out.below BB.out).lt).trans c0_r, (hW.cell (p := ⟨(w.heap.size + 1 + 1), 1, none⟩) (D_r.out.below BB.out).lt).trans c1_r, (hW.cell (p := ⟨(w.heap.size + 1 + 1), 2, none⟩) (D_r.out.below BB.out).lt).trans c2_r, (hW.frozen (p := ⟨(w.heap.size + 1 + 1), 0, none⟩) (D_r.out.below BB.out).lt).trans f0_r, (hW.frozen (p := ⟨(w.heap.size + 1 + 1), 1, none⟩) (D_r.out.below BB.out).lt).trans f1_r, (hW.frozen (p := ⟨(w.heap.size + 1 + 1), 2, none⟩) (D_r.out.below BB.out).lt).trans f2_r⟩)
   go_region_held3 (fun w' => w'.cell? ⟨ps, 0, none⟩ = some (.bool (SS && decide (0 < NN))) ∧ w'.cell? ⟨ps, 1, none⟩ = some (.slice a_n (limI NN).length c_n) ∧ w'.cell? ⟨w.heap.size, 0, none⟩ = some (.bool b0) ∧ w'.cell? ⟨w.heap.size, 1, none⟩ = some (.slice a0 nx c0) ∧ w'.cell? ⟨w.heap.size, 2, none⟩ = some (.slice e0 nd f0) ∧ w'.cell? ⟨(w.heap.size + 1), 0, none⟩ = some (.bool b1) ∧ w'.cell? ⟨(w.heap.size + 1), 1, none⟩ = some (.slice a1 ny c1) ∧ w'.cell? ⟨(w.heap.size + 1), 2, none⟩ = some (.slice e1 ne f1)) (first | exact HS.out _ (by first | with_reducible exact Below.refl _ _ | with_reducible exact (Below.refl _ _).drew | with_reducible exact bb_m | with_reducible exact bb_q | fail) | exact ⟨(cell_far3 (show ps ≠ (w.heap.size + 1 + 1) from by omega) _ _ _).trans ((HS.out _ (by first | with_reducible exact Below.refl _ _ | with_reducible exact (Below.refl _ _).drew | with_reducible exact bb_m | with_reducible exact bb_q | fail)).1), (cell_far3 (show ps ≠ (w.heap.size + 1 + 1) from by omega) _ _ _).trans ((HS.out _ (by first | with_reducible exact Below.refl _ _ | with_reducible exact (Below.refl _ _).drew | with_reducible exact bb_m | with_reducible exact bb_q | fail)).2.1), (cell_far3 (show w.heap.size ≠ (w.heap.size + 1 + 1) from by omega) _ _ _).trans ((HS.out _ (by first | with_reducible exact Below.refl _ _ | with_reducible exact (Below.refl _ _).drew | with_reducible exact bb_m | with_reducible exact bb_q | fail)).2.2.1), (cell_far3 (show w.heap.size ≠ (w.heap.size + 1 + 1) from by omega) _ _ _).trans ((HS.out _ (by first | with_reducible exact Below.refl _ _ | with_reducible exact (Below.refl _ _).drew | with_reducible exact bb_m | with_reducible exact bb_q | fail)).2.2.2.1), (cell_far3 (show w.heap.size ≠ (w.heap.size + 1 + 1) from by omega) _ _ _).trans ((HS.out _ (by first | with_reducible exact Below.refl _ _ | with_reducible exact (Below.refl _ _).drew | with_reducible exact bb_m | with_reducible exact bb_q | fail)).2.2.2.2.1), (cell_far3 (show (w.heap.size + 1) ≠ (w.heap.size + 1 + 1) from by omega) _ _ _).trans ((HS.out _ (by first | with_reducible exact Below.refl _ _ | with_reducible exact (Below.refl _ _).drew | with_reducible exact bb_m | with_reducible exact bb_q | fail)).2.2.2.2.2.1), (cell_far3 (show (w.heap.size + 1) ≠ (w.heap.size + 1 + 1) from by omega) _ _ _).trans ((HS.out _ (by first | with_reducible exact Below.refl _ _ | with_reducible exact (Below.refl _ _).drew | with_reducible exact bb_m | with_reducible exact bb_q | fail)).2.2.2.2.2.2.1), (cell_far3 (show (w.heap.size + 1) ≠ (w.heap.size + 1 + 1) from by omega) _ _ _).trans ((HS.out _ (by first | with_reducible exact Below.refl _ _ | with_reducible exact (Below.refl _ _).drew | with_reducible exact bb_m | with_reducible exact bb_q | fail)).2.2.2.2.2.2.2)⟩)
    (first
     | (go_at_call 126; refine (K_q.out _ (by first | with_reducible exact Below.refl _ _ | with_reducible exact (Below.refl _ _).drew | with_reducible exact bb_m | with_reducible exact bb_q | fail) _ (by first | with_reducible exact o_m.row)).mono ?_; rintro e w_q ⟨v_q, d_q, rfl, u_q, lo_q, bw_q, bb_q⟩; obtain ⟨a_q, c_q, e_q, f_q, rfl, rfl⟩ := u_q.slices; (try first | with_reducible (have o_m := o_m.below bw_q)); obtain ⟨s0, s1, s2, t0, t1, t2⟩ := HF.out _ bb_q)
     | (go_at_call 127; refine (K_m.out _ (by first | with_reducible exact Below.refl _ _ | with_reducible exact (Below.refl _ _).drew | with_reducible exact bb_m | with_reducible exact bb_q | fail)).mono ?_; rintro e w_m ⟨v_m, rfl, o_m, lo_m, bw_m, bb_m⟩; obtain ⟨a_m, c_m, rfl⟩ := o_m.slice; (try first | with_reducible (have u_q := u_q.below bw_m)); obtain ⟨s0, s1, s2, t0, t1, t2⟩ := HF.out _ bb_m))
   all_goals (have D9 := D_r.out.below (BB.out.trans (bb_q.mono BB.out.size)); obtain ⟨e1, e2⟩ := rat_end (b' := mkB (SS && decide (0 < NN)) XX DD) (B.out.trans (bb_q.mono B.out.size)) D9 (OwnR.base (B' := W0.heap.size) u_q BB.out.size) (by decide) (by have := SZ.out; omega) (by omega) (.slice a_q (mkZ XX DD).length c_q) (.slice e_q (mkD XX DD).length f_q); have D8 := Rx.set3 (b' := mkB (SS && decide (0 < NN)) XX DD) (v' := .slice a_q (mkZ XX DD).length c_q) (d' := .slice e_q (mkD XX DD).length f_q) D9; have hc0 := D8.c0; have hc1 := D8.c1; have hc2 := D8.c2; go_wp2; exact bodyPost_ret (v := .agg #[.bool (mkB (SS && decide (0 < NN)) XX DD), .slice a_q (mkZ XX DD).length c_q, .slice e_q (mkD XX DD).length f_q]) (by simp [results, Tryz.results178, go_sem, hc0, hc1, hc2]) rfl ⟨_, _, rfl, e1, e2⟩)
  | true =>
   have Q1 := Lib.hid hd1
   have Q2 := Lib.hid (show decide (e = 1) = false by have h := HD1.out; rw [hd1, Bool.true_and] at h; exact h)
   clear hd1 HD1
   go_enter Tryz.func178, Tryz.ntmps178
   go_wp2_with fail
   obtain ⟨W0, hW0⟩ : ∃ x, x = (((w.alloc (.cells #[.bool b0, .slice a0 nx c0, .slice e0 nd f0] 34)).alloc (.cells #[.bool b1, .slice a1 ny c1, .slice e1 ne f1] 34)).alloc (.cells #[.bool false, .slice none 0 0, .slice none 0 0] 34)) := ⟨_, rfl⟩
   have B := Lib.hid (show Below w.heap.size w W0 by rw [hW0]; exact ((((Below.refl _ _).alloc (Nat.le_refl _) _).alloc (by simp) _).alloc (by simp; omega) _))
   have D_x := Lib.hid (rx_at (show Rx W0 _ 34 (b0) (.slice a0 nx c0) (.slice e0 nd f0) by rw [hW0]; exact ((Rx.new _ _ _ _ _).alloc _).alloc _) (show w.heap.size = _ by simp))
   have D_y := Lib.hid (rx_at (show Rx W0 _ 34 (b1) (.slice a1 ny c1) (.slice e1 ne f1) by rw [hW0]; exact (Rx.new _ _ _ _ _).alloc _) (show (w.heap.size + 1) = _ by simp))
   have D_r := Lib.hid (rx_at (show Rx W0 _ 34 (false) (.slice none 0 0) (.slice none 0 0) by rw [hW0]; exact Rx.new _ _ _ _ _) (show (w.heap.size + 1 + 1) = _ by simp))
   have SZ := Lib.hid (show W0.heap.size = w.heap.size + 1 + 1 + 1 by rw [hW0]; simp)
   rw [← hW0]
   clear hW0
   have BB := Lib.hid (Below.refl W0.heap.size W0)
   refine (spec_isOne _ d _ (rowOf_below RA_d.out B.out)).mono ?_
   rw [Q1.out]
   rintro r9 w9 ⟨rfl, h9⟩
   replace h9 := h9.symm
   subst h9
   have c0_y := (D_y.out.below BB.out).c0
   have c1_y := (D_y.out.below BB.out).c1
   have c2_y := (D_y.out.below BB.out).c2
   go_wp2_with fail
   clear c0_y c1_y c2_y
   refine (spec_isOne _ e _ (rowOf_below RA_e.out B.out)).mono ?_
   rw [Q2.out]
   rintro r9 w9 ⟨rfl, h9⟩
   replace h9 := h9.symm
   subst h9
   have K_t := Lib.hid (fun (W : World) (hW : Below W0.heap.size W0 W) => pre_own (R := fun v => v) (spec_mulAny _ _ x e W (rowOf_below (rowOf_below RA_x.out B.out) hW) (rowOf_below (rowOf_below RA_e.out B.out) hW) (by have := B_x.out; omega) (by have := B_e.out; omega)) hW)
   have K_k := Lib.hid (fun (W : World) (hW : Below W0.heap.size W0 W) (vv : Value) (hr : RowOf iV W vv (limI (x * e))) => pre_own (R := fun v => .agg #[.bool (b0 && decide (0 < x * e)), v]) (spec_makeN b0 vv (x * e) W hr P1.out) hW)
   have c0_x := (D_x.out.below BB.out).c0
   have c1_x := (D_x.out.below BB.out).c1
   have c2_x := (D_x.out.below BB.out).c2
   have c0_y := (D_y.out.below BB.out).c0
   have c1_y := (D_y.out.below BB.out).c1
   have c2_y := (D_y.out.below BB.out).c2
   go_upto_region 4 with fail
   have HS := Lib.hid (show ∀ W : World, Below W0.heap.size W0 W → (W.cell? ⟨w.heap.size, 0, none⟩ = some (.bool b0) ∧ W.cell? ⟨w.heap.size, 1, none⟩ = some (.slice a0 nx c0) ∧ W.cell? ⟨w.heap.size, 2, none⟩ = some (.slice e0 nd f0) ∧ W.cell? ⟨(w.heap.size + 1), 0, none⟩ = some (.bool b1) ∧ W.cell? ⟨(w.heap.size + 1), 1, none⟩ = some (.slice a1 ny c1) ∧ W.cell? ⟨(w.heap.size + 1), 2, none⟩ = some (.slice e1 ne f1)) from fun W hW => ⟨(hW.cell (p := ⟨w.heap.size, 0, none⟩) (D_x.out.below BB.out).lt).trans c0_x, (hW.cell (p := ⟨w.heap.size, 1, none⟩) (D_x.out.below BB.out).lt).trans c1_x, (hW.cell (p := ⟨w.heap.size, 2, none⟩) (D_x.out.below BB.out).lt).trans c2_x, (hW.cell (p := ⟨(w.heap.size + 1), 0, none⟩) (D_y.out.below BB.out).lt).trans c0_y, (hW.cell (p := ⟨(w.heap.size + 1), 1, none⟩) (D_y.out.below BB.out).lt).trans c1_y, (hW.cell (p := ⟨(w.heap.size + 1), 2, none⟩) (D_y.out.below BB.out).lt).trans c2_y⟩)
   have lt_x := (D_x.out.below BB.out).lt
   have lt_y := (D_y.out.below BB.out).lt
   go_cut [6] from 28 (fun q0 wc => ∃ (p : Nat) (a_n : Option Addr) (n_n c_n : Nat), q0 = .pointer (some ⟨p, 0, none⟩) ∧ Hid (Bx wc p 32 (b0 && decide (0 < x * e)) (.slice a_n n_n c_n)) ∧ Hid (OwnI wc W0.heap.size (.slice a_n n_n c_n) (limI (x * e))) ∧ Hid (W0.heap.size ≤ p) ∧ Hid (Below W0.heap.size W0 wc))
   case first =>
    go_region_held3 (fun w' => w'.cell? ⟨w.heap.size, 0, none⟩ = some (.bool b0) ∧ w'.cell? ⟨w.heap.size, 1, none⟩ = some (.slice a0 nx c0) ∧ w'.cell? ⟨w.heap.size, 2, none⟩ = some (.slice e0 nd f0) ∧ w'.cell? ⟨(w.heap.size + 1), 0, none⟩ = some (.bool b1) ∧ w'.cell? ⟨(w.heap.size + 1), 1, none⟩ = some (.slice a1 ny c1) ∧ w'.cell? ⟨(w.heap.size + 1), 2, none⟩ = some (.slice e1 ne f1)) (first | exact HS.out _ (by first | with_reducible exact Below.refl _ _ | with_reducible exact (Below.refl _ _).drew | with_reducible exact bb_t | with_reducible exact bb_k | with_reducible exact (Below.refl _ _).alloc (Nat.le_refl _) _ | with_reducible exact ((Below.refl _ _).alloc (Nat.le_refl _) _).drew | with_reducible exact bb_t.alloc bb_t.size _ | with_reducible exact bb_k.alloc bb_k.size _ | fail) | exact ⟨(cell_far (show w.heap.size ≠ _ from fun e => absurd pz (by omega)) _ _).trans ((HS.out _ (by first | with_reducible exact Below.refl _ _ | with_reducible exact (Below.refl _ _).drew | with_reducible exact bb_t | with_reducible exact bb_k | with_reducible exact (Below.refl _ _).alloc (Nat.le_refl _) _ | with_reducible exact ((Below.refl _ _).alloc (Nat.le_refl _) _).drew | with_reducible exact bb_t.alloc bb_t.size _ | with_reducible exact bb_k.alloc bb_k.size _ | fail)).1), (cell_far (show w.heap.size ≠ _ from fun e => absurd pz (by omega)) _ _).trans ((HS.out _ (by first | with_reducible exact Below.refl _ _ | with_reducible exact (Below.refl _ _).drew | with_reducible exact bb_t | with_reducible exact bb_k | with_reducible exact (Below.refl _ _).alloc (Nat.le_refl _) _ | with_reducible exact ((Below.refl _ _).alloc (Nat.le_refl _) _).drew | with_reducible exact bb_t.alloc bb_t.size _ | with_reducible exact bb_k.alloc bb_k.size _ | fail)).2.1), (cell_far (show w.heap.size ≠ _ from fun e => absurd pz (by omega)) _ _).trans ((HS.out _ (by first | with_reducible exact Below.refl _ _ | with_reducible exact (Below.refl _ _).drew | with_reducible exact bb_t | with_reducible exact bb_k | with_reducible exact (Below.refl _ _).alloc (Nat.le_refl _) _ | with_reducible exact ((Below.refl _ _).alloc (Nat.le_refl _) _).drew | with_reducible exact bb_t.alloc bb_t.size _ | with_reducible exact bb_k.alloc bb_k.size _ | fail)).2.2.1), (cell_far (show (w.heap.size + 1) ≠ _ from fun e => absurd pz (by omega)) _ _).trans ((HS.out _ (by first | with_reducible exact Below.refl _ _ | with_reducible exact (Below.refl _ _).drew | with_reducible exact bb_t | with_reducible exact bb_k | with_reducible exact (Below.refl _ _).alloc (Nat.le_refl _) _ | with_reducible exact ((Below.refl _ _).alloc (Nat.le_refl _) _).drew | with_reducible exact bb_t.alloc bb_t.size _ | with_reducible exact bb_k.alloc bb_k.size _ | fail)).2.2.2.1), (cell_far (show (w.heap.size + 1) ≠ _ from fun e => absurd pz (by omega)) _ _).trans ((HS.out _ (by first | with_reducible exact Below.refl _ _ | with_reducible exact (Below.refl _ _).drew | with_reducible exact bb_t | with_reducible exact bb_k | with_reducible exact (Below.refl _ _).alloc (Nat.le_refl _) _ | with_reducible exact ((Below.refl _ _).alloc (Nat.le_refl _) _).drew | with_reducible exact bb_t.alloc bb_t.size _ | with_reducible exact bb_k.alloc bb_k.size _ | fail)).2.2.2.2.1), (cell_far (show (w.heap.size + 1) ≠ _ from fun e => absurd pz (by omega)) _ _).trans ((HS.out _ (by first | with_reducible exact Below.refl _ _ | with_reducible exact (Below.refl _ _).drew | with_reducible exact bb_t | with_reducible exact bb_k | with_reducible exact (Below.refl _ _).alloc (Nat.le_refl _) _ | with_reducible exact ((Below.refl _ _).alloc (Nat.le_refl _) _).drew | with_reducible exact bb_t.alloc bb_t.size _ | with_reducible exact bb_k.alloc bb_k.size _ | fail)).2.2.2.2.2)⟩)
     (first
      | (go_at_call 135; refine (K_k.out _ (by first | with_reducible exact Below.refl _ _ | with_reducible exact (Below.refl _ _).drew | with_reducible exact bb_t | with_reducible exact bb_k | with_reducible exact (Below.refl _ _).alloc (Nat.le_refl _) _ | with_reducible exact ((Below.refl _ _).alloc (Nat.le_refl _) _).drew | with_reducible exact bb_t.alloc bb_t.size _ | with_reducible exact bb_k.alloc bb_k.size _ | fail) _ (by first | with_reducible exact o_t.row | with_reducible exact (o_t.alloc _).row)).mono ?_; rintro e w_k ⟨v_k, rfl, o_k, lo_k, bw_k, bb_k⟩; obtain ⟨a_k, c_k, rfl⟩ := o_k.slice; (try first | with_reducible (have o_t := o_t.below bw_k) | with_reducible (have o_t := (o_t.alloc _).below bw_k)); (try with_reducible (have dz := Bx.below dz bw_k; have pz := pz)); (try first | with_reducible (have dz := (show Bx w_k W0.heap.size 32 (false) (.slice none 0 0) from Bx.below (show Bx (World.drew (W0.alloc (.cells #[.bool false, .slice none 0 0] 32))) W0.heap.size 32 (false) (.slice none 0 0) from Bx.drew (Bx.new _ _ _ _)) bw_k); have pz : W0.heap.size ≤ W0.heap.size := Nat.le_refl _) | with_reducible (have dz := (show Bx w_k w_t.heap.size 32 (false) (.slice none 0 0) from Bx.below (Bx.new _ _ _ _) bw_k); have pz : W0.heap.size ≤ w_t.heap.size := bb_t.size)); (try (have y0 := dz.c0; have y1 := dz.c1; have x0 := dz.f0; have x1 := dz.f1)))
      | (go_at_call 127; refine (K_t.out _ (by first | with_reducible exact Below.refl _ _ | with_reducible exact (Below.refl _ _).drew | with_reducible exact bb_t | with_reducible exact bb_k | with_reducible exact (Below.refl _ _).alloc (Nat.le_refl _) _ | with_reducible exact ((Below.refl _ _).alloc (Nat.le_refl _) _).drew | with_reducible exact bb_t.alloc bb_t.size _ | with_reducible exact bb_k.alloc bb_k.size _ | fail)).mono ?_; rintro e w_t ⟨v_t, rfl, o_t, lo_t, bw_t, bb_t⟩; obtain ⟨a_t, c_t, rfl⟩ := o_t.slice; (try first | with_reducible (have o_k := o_k.below bw_t) | with_reducible (have o_k := (o_k.alloc _).below bw_t)); (try with_reducible (have dz := Bx.below dz bw_t; have pz := pz)); (try first | with_reducible (have dz := (show Bx w_t W0.heap.size 32 (false) (.slice none 0 0) from Bx.below (show Bx (World.drew (W0.alloc (.cells #[.bool false, .slice none 0 0] 32))) W0.heap.size 32 (false) (.slice none 0 0) from Bx.drew (Bx.new _ _ _ _)) bw_t); have pz : W0.heap.size ≤ W0.heap.size := Nat.le_refl _) | with_reducible (have dz := (show Bx w_t w_k.heap.size 32 (false) (.slice none 0 0) from Bx.below (Bx.new _ _ _ _) bw_t); have pz : W0.heap.size ≤ w_k.heap.size := bb_k.size)); (try (have y0 := dz.c0; have y1 := dz.c1; have x0 := dz.f0; have x1 := dz.f1))))
    all_goals go_wp2_with fail
    all_goals go_meet
    all_goals first
     | exact ⟨_, _, _, _, rfl, Lib.hid dz.set, Lib.hid (own_bx2 o_k dz (by decide) _ _), Lib.hid pz, Lib.hid ((bb_k.setCell pz _).setCell pz _)⟩
     | exact ⟨_, _, _, _, rfl, Lib.hid (Bx.new _ _ _ _), Lib.hid (o_k.alloc _), Lib.hid bb_k.size, Lib.hid (bb_k.alloc bb_k.size _)⟩
   clear c0_x c1_x c2_x
   clear c0_y c1_y c2_y
   clear HS lt_x lt_y
   obtain ⟨p_bl, a_bl, n_bl, c_bl, rfl, hD, hO, hp, hB⟩ := hcut
   obtain ⟨wc4, hwc⟩ : ∃ x, x = wc := ⟨_, rfl⟩
   simp only [← hwc] at *
   clear hwc
   have bw9 := hB.out
   have M_bl := hD
   have Q_qbl := Lib.hid hO.out.row
   clear hD hO hp K_t K_k
   replace B := Lib.hid (B.out.trans (bw9.mono B.out.size))
   replace BB := Lib.hid (BB.out.trans (bw9.mono BB.out.size))
   clear hB bw9
   have K_t := Lib.hid (fun (W : World) (hW : Below wc4.heap.size wc4 W) => pre_own (R := fun v => v) (spec_mulAny _ _ y d W (rowOf_below (rowOf_below RA_y.out B.out) hW) (rowOf_below (rowOf_below RA_d.out B.out) hW) (by have := B_y.out; omega) (by have := B_d.out; omega)) hW)
   have K_k := Lib.hid (fun (W : World) (hW : Below wc4.heap.size wc4 W) (vv : Value) (hr : RowOf iV W vv (limI (y * d))) => pre_own (R := fun v => .agg #[.bool (b1 && decide (0 < y * d)), v]) (spec_makeN b1 vv (y * d) W hr P2.out) hW)
   have c0_x := (D_x.out.below BB.out).c0
   have c1_x := (D_x.out.below BB.out).c1
   have c2_x := (D_x.out.below BB.out).c2
   have c0_y := (D_y.out.below BB.out).c0
   have c1_y := (D_y.out.below BB.out).c1
   have c2_y := (D_y.out.below BB.out).c2
   go_upto_region 5 with fail
   have HS := Lib.hid (show ∀ W : World, Below wc4.heap.size wc4 W → (W.cell? ⟨w.heap.size, 0, none⟩ = some (.bool b0) ∧ W.cell? ⟨w.heap.size, 1, none⟩ = some (.slice a0 nx c0) ∧ W.cell? ⟨w.heap.size, 2, none⟩ = some (.slice e0 nd f0) ∧ W.cell? ⟨(w.heap.size + 1), 0, none⟩ = some (.bool b1) ∧ W.cell? ⟨(w.heap.size + 1), 1, none⟩ = some (.slice a1 ny c1) ∧ W.cell? ⟨(w.heap.size + 1), 2, none⟩ = some (.slice e1 ne f1)) from fun W hW => ⟨(hW.cell (p := ⟨w.heap.size, 0, none⟩) (D_x.out.below BB.out).lt).trans c0_x, (hW.cell (p := ⟨w.heap.size, 1, none⟩) (D_x.out.below BB.out).lt).trans c1_x, (hW.cell (p := ⟨w.heap.size, 2, none⟩) (D_x.out.below BB.out).lt).trans c2_x, (hW.cell (p := ⟨(w.heap.size + 1), 0, none⟩) (D_y.out.below BB.out).lt).trans c0_y, (hW.cell (p := ⟨(w.heap.size + 1), 1, none⟩) (D_y.out.below BB.out).lt).trans c1_y, (hW.cell (p := ⟨(w.heap.size + 1), 2, none⟩) (D_y.out.below BB.out).lt).trans c2_y⟩)
   have lt_x := (D_x.out.below BB.out).lt
   have lt_y := (D_y.out.below BB.out).lt
   go_cut [7] from 38 (fun q0 wc => ∃ (p : Nat) (a_n : Option Addr) (n_n c_n : Nat), q0 = .pointer (some ⟨p, 0, none⟩) ∧ Hid (Bx wc p 32 (b1 && decide (0 < y * d)) (.slice a_n n_n c_n)) ∧ Hid (OwnI wc wc4.heap.size (.slice a_n n_n c_n) (limI (y * d))) ∧ Hid (wc4.heap.size ≤ p) ∧ Hid (Below wc4.heap.size wc4 wc))
   case first =>
    go_region_held3 (fun w' => w'.cell? ⟨w.heap.size, 0, none⟩ = some (.bool b0) ∧ w'.cell? ⟨w.heap.size, 1, none⟩ = some (.slice a0 nx c0) ∧ w'.cell? ⟨w.heap.size, 2, none⟩ = some (.slice e0 nd f0) ∧ w'.cell? ⟨(w.heap.size + 1), 0, none⟩ = some (.bool b1) ∧ w'.cell? ⟨(w.heap.size + 1), 1, none⟩ = some (.slice a1 ny c1) ∧ w'.cell? ⟨(w.heap.size + 1), 2, none⟩ = some (.slice e1 ne f1)) (first | exact HS.out _ (by first | with_reducible exact Below.refl _ _ | with_reducible exact (Below.refl _ _).drew | with_reducible exact bb_t | with_reducible exact bb_k | with_reducible exact (Below.refl _ _).alloc (Nat.le_refl _) _ | with_reducible exact ((Below.refl _ _).alloc (Nat.le_refl _) _).drew | with_reducible exact bb_t.alloc bb_t.size _ | with_reducible exact bb_k.alloc bb_k.size _ | fail) | exact ⟨(cell_far (show w.heap.size ≠ _ from fun e => absurd pz (by omega)) _ _).trans ((HS.out _ (by first | with_reducible exact Below.refl _ _ | with_reducible exact (Below.refl _ _).drew | with_reducible exact bb_t | with_reducible exact bb_k | with_reducible exact (Below.refl _ _).alloc (Nat.le_refl _) _ | with_reducible exact ((Below.refl _ _).alloc (Nat.le_refl _) _).drew | with_reducible exact bb_t.alloc bb_t.size _ | with_reducible exact bb_k.alloc bb_k.size _ | fail)).1), (cell_far (show w.heap.size ≠ _ from fun e => absurd pz (by omega)) _ _).trans ((HS.out _ (by first | with_reducible exact Below.refl _ _ | with_reducible exact (Below.refl _ _).drew | with_reducible exact bb_t | with_reducible exact bb_k | with_reducible exact (Below.refl _ _).alloc (Nat.le_refl _) _ | with_reducible exact ((Below.refl _ _).alloc (Nat.le_refl _) _).drew | with_reducible exact bb_t.alloc bb_t.size _ | with_reducible exact bb_k.alloc bb_k.size _ | fail)).2.1), (cell_far (show w.heap.size ≠ _ from fun e => absurd pz (by omega)) _ _).trans ((HS.out _ (by first | with_reducible exact Below.refl _ _ | with_reducible exact (Below.refl _ _).drew | with_reducible exact bb_t | with_reducible exact bb_k | with_reducible exact (Below.refl _ _).alloc (Nat.le_refl _) _ | with_reducible exact ((Below.refl _ _).alloc (Nat.le_refl _) _).drew | with_reducible exact bb_t.alloc bb_t.size _ | with_reducible exact bb_k.alloc bb_k.size _ | fail)).2.2.1), (cell_far (show (w.heap.size + 1) ≠ _ from fun e => absurd pz (by omega)) _ _).trans ((HS.out _ (by first | with_reducible exact Below.refl _ _ | with_reducible exact (Below.refl _ _).drew | with_reducible exact bb_t | with_reducible exact bb_k | with_reducible exact (Below.refl _ _).alloc (Nat.le_refl _) _ | with_reducible exact ((Below.refl _ _).alloc (Nat.le_refl _) _).drew | with_reducible exact bb_t.alloc bb_t.size _ | with_reducible exact bb_k.alloc bb_k.size _ | fail)).2.2.2.1), (cell_far (show (w.heap.size + 1) ≠ _ from fun e => absurd pz (by omega)) _ _).trans ((HS.out _ (by first | with_reducible exact Below.refl _ _ | with_reducible exact (Below.refl _ _).drew | with_reducible exact bb_t | with_reducible exact bb_k | with_reducible exact (Below.refl _ _).alloc (Nat.le_refl _) _ | with_reducible exact ((Below.refl _ _).alloc (Nat.le_refl _) _).drew | with_reducible exact bb_t.alloc bb_t.size _ | with_reducible exact bb_k.alloc bb_k.size _ | fail)).2.2.2.2.1), (cell_far (show (w.heap.size + 1) ≠ _ from fun e => absurd pz (by omega)) _ _).trans ((HS.out _ (by first | with_reducible exact Below.refl _ _ | with_reducible exact (Below.refl _ _).drew | with_reducible exact bb_t | with_reducible exact bb_k | with_reducible exact (Below.refl _ _).alloc (Nat.le_refl _) _ | with_reducible exact ((Below.refl _ _).alloc (Nat.le_refl _) _).drew | with_reducible exact bb_t.alloc bb_t.size _ | with_reducible exact bb_k.alloc bb_k.size _ | fail)).2.2.2.2.2)⟩)
     (first
      | (go_at_call 135; refine (K_k.out _ (by first | with_reducible exact Below.refl _ _ | with_reducible exact (Below.refl _ _).drew | with_reducible exact bb_t | with_reducible exact bb_k | with_reducible exact (Below.refl _ _).alloc (Nat.le_refl _) _ | with_reducible exact ((Below.refl _ _).alloc (Nat.le_refl _) _).drew | with_reducible exact bb_t.alloc bb_t.size _ | with_reducible exact bb_k.alloc bb_k.size _ | fail) _ (by first | with_reducible exact o_t.row | with_reducible exact (o_t.alloc _).row)).mono ?_; rintro e w_k ⟨v_k, rfl, o_k, lo_k, bw_k, bb_k⟩; obtain ⟨a_k, c_k, rfl⟩ := o_k.slice; (try first | with_reducible (have o_t := o_t.below bw_k) | with_reducible (have o_t := (o_t.alloc _).below bw_k)); (try with_reducible (have dz := Bx.below dz bw_k; have pz := pz)); (try first | with_reducible (have dz := (show Bx w_k wc4.heap.size 32 (false) (.slice none 0 0) from Bx.below (show Bx (World.drew (wc4.alloc (.cells #[.bool false, .slice none 0 0] 32))) wc4.heap.size 32 (false) (.slice none 0 0) from Bx.drew (Bx.new _ _ _ _)) bw_k); have pz : wc4.heap.size ≤ wc4.heap.size := Nat.le_refl _) | with_reducible (have dz := (show Bx w_k w_t.heap.size 32 (false) (.slice none 0 0) from Bx.below (Bx.new _ _ _ _) bw_k); have pz : wc4.heap.size ≤ w_t.heap.size := bb_t.size)); (try (have y0 := dz.c0; have y1 := dz.c1; have x0 := dz.f0; have x1 := dz.f1)))
      | (go_at_call 127; refine (K_t.out _ (by first | with_reducible exact Below.refl _ _ | with_reducible exact (Below.refl _ _).drew | with_reducible exact bb_t | with_reducible exact bb_k | with_reducible exact (Below.refl _ _).alloc (Nat.le_refl _) _ | with_reducible exact ((Below.refl _ _).alloc (Nat.le_refl _) _).drew | with_reducible exact bb_t.alloc bb_t.size _ | with_reducible exact bb_k.alloc bb_k.size _ | fail)).mono ?_; rintro e w_t ⟨v_t, rfl, o_t, lo_t, bw_t, bb_t⟩; obtain ⟨a_t, c_t, rfl⟩ := o_t.slice; (try first | with_reducible (have o_k := o_k.below bw_t) | with_reducible (have o_k := (o_k.alloc _).below bw_t)); (try with_reducible (have dz := Bx.below dz bw_t; have pz := pz)); (try first | with_reducible (have dz := (show Bx w_t wc4.heap.size 32 (false) (.slice none 0 0) from Bx.below (show Bx (World.drew (wc4.alloc (.cells #[.bool false, .slice none 0 0] 32))) wc4.heap.size 32 (false) (.slice none 0 0) from Bx.drew (Bx.new _ _ _ _)) bw_t); have pz : wc4.heap.size ≤ wc4.heap.size := Nat.le_refl _) | with_reducible (have dz := (show Bx w_t w_k.heap.size 32 (false) (.slice none 0 0) from Bx.below (Bx.new _ _ _ _) bw_t); have pz : wc4.heap.size ≤ w_k.heap.size := bb_k.size)); (try (have y0 := dz.c0; have y1 := dz.c1; have x0 := dz.f0; have x1 := dz.f1))))
    all_goals go_wp2_with fail
    all_goals go_meet
    all_goals first
     | exact ⟨_, _, _, _, rfl, Lib.hid dz.set, Lib.hid (own_bx2 o_k dz (by decide) _ _), Lib.hid pz, Lib.hid ((bb_k.setCell pz _).setCell pz _)⟩
     | exact ⟨_, _, _, _, rfl, Lib.hid (Bx.new _ _ _ _), Lib.hid (o_k.alloc _), Lib.hid bb_k.size, Lib.hid (bb_k.alloc bb_k.size _)⟩
   clear c0_x c1_x c2_x
   clear c0_y c1_y c2_y
   clear HS lt_x lt_y
   obtain ⟨p_br, a_br, n_br, c_br, rfl, hD, hO, hp, hB⟩ := hcut
   obtain ⟨wc5, hwc⟩ : ∃ x, x = wc := ⟨_, rfl⟩
   simp only [← hwc] at *
   clear hwc
   have bw9 := hB.out
   replace M_bl := Lib.hid (M_bl.out.below bw9)
   replace Q_qbl := Lib.hid (rowOf_below Q_qbl.out bw9)
   have M_br := hD
   have Q_qbr := Lib.hid hO.out.row
   clear hD hO hp K_t K_k
   replace B := Lib.hid (B.out.trans (bw9.mono B.out.size))
   replace BB := Lib.hid (BB.out.trans (bw9.mono BB.out.size))
   clear hB bw9
   have c0_bl := M_bl.out.c0
   have c1_bl := M_bl.out.c1
   have c0_br := M_br.out.c0
   have c1_br := M_br.out.c1
   go_wp2_with fail
   clear c0_bl c1_bl
   clear c0_br c1_br
   have hc9 := spec_addN (b0 && decide (0 < x * e)) _ (x * e) (b1 && decide (0 < y * d)) _ (y * d) wc5 Q_qbl.out Q_qbr.out (by have := L1.out; omega) (by have := L2.out; omega) (by rw [sgAdd_norm.2, HNN.out]; exact PN.out)
   rw [sgAdd_norm.1, sgAdd_norm.2, HNN.out, HE.out.1] at hc9
   refine (hc9).mono ?_
   rintro e w3 ⟨v_n, rfl, o_n, bw3⟩
   obtain ⟨a_n, c_n, rfl⟩ := o_n.slice
   replace M_bl := Lib.hid (M_bl.out.below bw3)
   replace Q_qbl := Lib.hid (rowOf_below Q_qbl.out bw3)
   replace M_br := Lib.hid (M_br.out.below bw3)
   replace Q_qbr := Lib.hid (rowOf_below Q_qbr.out bw3)
   have O_n := Lib.hid (o_n.base BB.out.size)
   clear o_n
   replace B := Lib.hid (B.out.trans (bw3.mono B.out.size))
   replace BB := Lib.hid (BB.out.trans (bw3.mono BB.out.size))
   clear bw3
   go_wp2_with fail
   obtain ⟨W5, hW5⟩ : ∃ X9, X9 = w3.alloc (.cells #[.bool (SS && decide (0 < NN)), .slice a_n (limI NN).length c_n] 32) := ⟨_, rfl⟩
   have M_s := Lib.hid (show Bx W5 w3.heap.size 32 (SS && decide (0 < NN)) (.slice a_n (limI NN).length c_n) by rw [hW5]; exact Bx.new _ _ _ _)
   replace O_n := Lib.hid (show OwnI W5 W0.heap.size _ _ by rw [hW5]; exact O_n.out.alloc _)
   have PS := Lib.hid (show W0.heap.size ≤ w3.heap.size from BB.out.size)
   replace BB := Lib.hid (show Below W0.heap.size W0 W5 by rw [hW5]; exact BB.out.alloc BB.out.size _)
   replace B := Lib.hid (show Below w.heap.size w W5 by rw [hW5]; exact B.out.alloc B.out.size _)
   rw [← hW5]
   clear hW5 M_bl M_br Q_qbl Q_qbr
   obtain ⟨ps, hps⟩ : ∃ p, w3.heap.size = p := ⟨_, rfl⟩
   rw [hps] at M_s PS ⊢
   clear hps
   have K_m := Lib.hid (fun (W : World) (hW : Below W5.heap.size W5 W) => pre_own (R := fun v => v) (spec_mulAny _ _ d e W (rowOf_below (rowOf_below RA_d.out B.out) hW) (rowOf_below (rowOf_below RA_e.out B.out) hW) (by have := B_d.out; omega) (by have := B_e.out; omega)) hW)
   have K_q := Lib.hid (fun (W : World) (hW : Below W5.heap.size W5 W) (vv : Value) (hr : RowOf iV W vv (limI (d * e))) => pre_rat ((by have h := spec_low (SS && decide (0 < NN)) _ NN vv (d * e) W (rowOf_below O_n.out.row hW) hr PN.out P3.out; rw [HE.out.2.1, HE.out.2.2] at h; exact h)) hW)
   have P9 := PS.out
   have SZ9 := SZ.out
   have c0_s := M_s.out.c0
   have c1_s := M_s.out.c1
   have c0_x := (D_x.out.below BB.out).c0
   have c1_x := (D_x.out.below BB.out).c1
   have c2_x := (D_x.out.below BB.out).c2
   have c0_y := (D_y.out.below BB.out).c0
   have c1_y := (D_y.out.below BB.out).c1
   have c2_y := (D_y.out.below BB.out).c2
   go_wp2_with fail
   have HS := Lib.hid (show ∀ W : World, Below W5.heap.size W5 W → (W.cell? ⟨ps, 0, none⟩ = some (.bool (SS && decide (0 < NN))) ∧ W.cell? ⟨ps, 1, none⟩ = some (.slice a_n (limI NN).length c_n) ∧ W.cell? ⟨w.heap.size, 0, none⟩ = some (.bool b0) ∧ W.cell? ⟨w.heap.size, 1, none⟩ = some (.slice a0 nx c0) ∧ W.cell? ⟨w.heap.size, 2, none⟩ = some (.slice e0 nd f0) ∧ W.cell? ⟨(w.heap.size + 1), 0, none⟩ = some (.bool b1) ∧ W.cell? ⟨(w.heap.size + 1), 1, none⟩ = some (.slice a1 ny c1) ∧ W.cell? ⟨(w.heap.size + 1), 2, none⟩ = some (.slice e1 ne f1)) from fun W hW => ⟨(hW.cell (p := ⟨ps, 0, none⟩) M_s.out.lt).trans c0_s, (hW.cell (p := ⟨ps, 1, none⟩) M_s.out.lt).trans c1_s, (hW.cell (p := ⟨w.heap.size, 0, none⟩) (D_x.out.below BB.out).lt).trans c0_x, (hW.cell (p := ⟨w.heap.size, 1, none⟩) (D_x.out.below BB.out).lt).trans c1_x, (hW.cell (p := ⟨w.heap.size, 2, none⟩) (D_x.out.below BB.out).lt).trans c2_x, (hW.cell (p := ⟨(w.heap.size + 1), 0, none⟩) (D_y.out.below BB.out).lt).trans c0_y, (hW.cell (p := ⟨(w.heap.size + 1), 1, none⟩) (D_y.out.below BB.out).lt).trans c1_y, (hW.cell (p := ⟨(w.heap.size + 1), 2, none⟩) (D_y.out.below BB.out).lt).trans c2_y⟩)
   have lt_s := M_s.out.lt
   have lt_x := (D_x.out.below BB.out).lt
   have lt_y := (D_y.out.below BB.out).lt
   have c0_r := (D_r.out.below BB.out).c0
   have c1_r := (D_r.out.below BB.out).c1
   have c2_r := (D_r.out.below BB.out).c2
   have f0_r := (D_r.out.below BB.out).f 0
   have f1_r := (D_r.out.below BB.out).f 1
   have f2_r := (D_r.out.below BB.out).f 2
   have HF := Lib.hid (show ∀ W : World, Below W5.heap.size W5 W → (W.cell? ⟨(w.heap.size + 1 + 1), 0, none⟩ = some (.bool false) ∧ W.cell? ⟨(w.heap.size + 1 + 1), 1, none⟩ = some (.slice none 0 0) ∧ W.cell? ⟨(w.heap.size + 1 + 1), 2, none⟩ = some (.slice none 0 0) ∧ W.frozen? ⟨(w.heap.size + 1 + 1), 0, none⟩ = false ∧ W.frozen? ⟨(w.heap.size + 1 + 1), 1, none⟩ = false ∧ W.frozen? ⟨(w.heap.size + 1 + 1), 2, none⟩ = false) from fun W hW => ⟨(hW.cell (p := ⟨(w.heap.size + 1 + 1), 0, none⟩) (D_r.out.below BB.out).lt).trans c0_r, (hW.cell (p := ⟨(w.heap.size + 1 + 1), 1, none⟩) (D_r.out.below BB.out).lt).trans c1_r, (hW.cell (p := ⟨(w.heap.size + 1 + 1), 2, none⟩) (D_r.out.below BB.out).lt).trans c2_r, (hW.frozen (p := ⟨(w.heap.size + 1 + 1), 0, none⟩) (D_r.out.below BB.out).lt).trans f0_r, (hW.frozen (p := ⟨(w.heap.size + 1 + 1), 1, none⟩) (D_r.out.below BB.out).lt).trans f1_r, (hW.frozen (p := ⟨(w.heap.size + 1 + 1), 2, none⟩) (D_r.out.below BB.out).lt).trans f2_r⟩)
   go_region_held3 (fun w' => w'.cell? ⟨ps, 0, none⟩ = some (.bool (SS && decide (0 < NN))) ∧ w'.cell? ⟨ps, 1, none⟩ = some (.slice a_n (limI NN).length c_n) ∧ w'.cell? ⟨w.heap.size, 0, none⟩ = some (.bool b0) ∧ w'.cell? ⟨w.heap.size, 1, none⟩ = some (.slice a0 nx c0) ∧ w'.cell? ⟨w.heap.size, 2, none⟩ = some (.slice e0 nd f0) ∧ w'.cell? ⟨(w.heap.size + 1), 0, none⟩ = some (.bool b1) ∧ w'.cell? ⟨(w.heap.size + 1), 1, none⟩ = some (.slice a1 ny c1) ∧ w'.cell? ⟨(w.heap.size + 1), 2, none⟩ = some (.slice e1 ne f1)) (first | exact HS.out _ (by first | with_reducible exact Below.refl _ _ | with_reducible exact (Below.refl _ _).drew | with_reducible exact bb_m | with_reducible exact bb_q | fail) | exact ⟨(cell_far3 (show ps ≠ (w.heap.size + 1 + 1) from by omega) _ _ _).trans ((HS.out _ (by first | with_reducible exact Below.refl _ _ | with_reducible exact (Below.refl _ _).drew | with_reducible exact bb_m | with_reducible exact bb_q | fail)).1), (cell_far3 (show ps ≠ (w.heap.size + 1 + 1) from by omega) _ _ _).trans ((HS.out _ (by first | with_reducible exact Below.refl _ _ | with_reducible exact (Below.refl _ _).drew | with_reducible exact bb_m | with_reducible exact bb_q | fail)).2.1), (cell_far3 (show w.heap.size ≠ (w.heap.size + 1 + 1) from by omega) _ _ _).trans ((HS.out _ (by first | with_reducible exact Below.refl _ _ | with_reducible exact (Below.refl _ _).drew | with_reducible exact bb_m | with_reducible exact bb_q | fail)).2.2.1), (cell_far3 (show w.heap.size ≠ (w.heap.size + 1 + 1) from by omega) _ _ _).trans ((HS.out _ (by first | with_reducible exact Below.refl _ _ | with_reducible exact (Below.refl _ _).drew | with_reducible exact bb_m | with_reducible exact bb_q | fail)).2.2.2.1), (cell_far3 (show w.heap.size ≠ (w.heap.size + 1 + 1) from by omega) _ _ _).trans ((HS.out _ (by first | with_reducible exact Below.refl _ _ | with_reducible exact (Below.refl _ _).drew | with_reducible exact bb_m | with_reducible exact bb_q | fail)).2.2.2.2.1), (cell_far3 (show (w.heap.size + 1) ≠ (w.heap.size + 1 + 1) from by omega) _ _ _).trans ((HS.out _ (by first | with_reducible exact Below.refl _ _ | with_reducible exact (Below.refl _ _).drew | with_reducible exact bb_m | with_reducible exact bb_q | fail)).2.2.2.2.2.1), (cell_far3 (show (w.heap.size + 1) ≠ (w.heap.size + 1 + 1) from by omega) _ _ _).trans ((HS.out _ (by first | with_reducible exact Below.refl _ _ | with_reducible exact (Below.refl _ _).drew | with_reducible exact bb_m | with_reducible exact bb_q | fail)).2.2.2.2.2.2.1), (cell_far3 (show (w.heap.size + 1) ≠ (w.heap.size + 1 + 1) from by omega) _ _ _).trans ((HS.out _ (by first | with_reducible exact Below.refl _ _ | with_reducible exact (Below.refl _ _).drew | with_reducible exact bb_m | with_reducible exact bb_q | fail)).2.2.2.2.2.2.2)⟩)
    (first
     | (go_at_call 126; refine (K_q.out _ (by first | with_reducible exact Below.refl _ _ | with_reducible exact (Below.refl _ _).drew | with_reducible exact bb_m | with_reducible exact bb_q | fail) _ (by first | with_reducible exact o_m.row)).mono ?_; rintro e w_q ⟨v_q, d_q, rfl, u_q, lo_q, bw_q, bb_q⟩; obtain ⟨a_q, c_q, e_q, f_q, rfl, rfl⟩ := u_q.slices; (try first | with_reducible (have o_m := o_m.below bw_q)); obtain ⟨s0, s1, s2, t0, t1, t2⟩ := HF.out _ bb_q)
     | (go_at_call 127; refine (K_m.out _ (by first | with_reducible exact Below.refl _ _ | with_reducible exact (Below.refl _ _).drew | with_reducible exact bb_m | with_reducible exact bb_q | fail)).mono ?_; rintro e w_m ⟨v_m, rfl, o_m, lo_m, bw_m, bb_m⟩; obtain ⟨a_m, c_m, rfl⟩ := o_m.slice; (try first | with_reducible (have u_q := u_q.below bw_m)); obtain ⟨s0, s1, s2, t0, t1, t2⟩ := HF.out _ bb_m))
   all_goals (have D9 := D_r.out.below (BB.out.trans (bb_q.mono BB.out.size)); obtain ⟨e1, e2⟩ := rat_end (b' := mkB (SS && decide (0 < NN)) XX DD) (B.out.trans (bb_q.mono B.out.size)) D9 (OwnR.base (B' := W0.heap.size) u_q BB.out.size) (by decide) (by have := SZ.out; omega) (by omega) (.slice a_q (mkZ XX DD).length c_q) (.slice e_q (mkD XX DD).length f_q); have D8 := Rx.set3 (b' := mkB (SS && decide (0 < NN)) XX DD) (v' := .slice a_q (mkZ XX DD).length c_q) (d' := .slice e_q (mkD XX DD).length f_q) D9; have hc0 := D8.c0; have hc1 := D8.c1; have hc2 := D8.c2; go_wp2; exact bodyPost_ret (v := .agg #[.bool (mkB (SS && decide (0 < NN)) XX DD), .slice a_q (mkZ XX DD).length c_q, .slice e_q (mkD XX DD).length f_q]) (by simp [results, Tryz.results178, go_sem, hc0, hc1, hc2]) rfl ⟨_, _, rfl, e1, e2⟩)
 ·obtain ⟨rfl, rfl⟩ := h11
  clear hd he hx hy P1 P2 P3 L1 L2 B_d B_e
  simp only [Nat.mul_one] at ESG PN ⊢
  have HXD : Hid (sgAddB b0 x b1 y = sgAddB b0 x b1 y) := Lib.hid rfl
  rw [← ESG.out]
  have H0 := Lib.hid h0
  have H1 := Lib.hid h1
  obtain ⟨⟨a0, c0, rfl, z1, z2, z3⟩, ⟨e0, f0, rfl, z4, z5, z6⟩⟩ := h0
  clear z1 z2 z3 z4 z5 z6
  obtain ⟨⟨a1, c1, rfl, z1, z2, z3⟩, ⟨e1, f1, rfl, z4, z5, z6⟩⟩ := h1
  clear z1 z2 z3 z4 z5 z6
  rw [show (limI 1).length = 1 by rw [limI_1]; rfl] at H0 H1
  try rw [show (limI 1).length = 1 by rw [limI_1]; rfl]
  obtain ⟨nx, hnx⟩ : ∃ n, (limI x).length = n := ⟨_, rfl⟩
  rw [hnx] at H0
  try rw [hnx]
  clear hnx
  obtain ⟨ny, hny⟩ : ∃ n, (limI y).length = n := ⟨_, rfl⟩
  rw [hny] at H1
  try rw [hny]
  clear hny
  obtain ⟨NN, hNN⟩ : ∃ s, sgAddN b0 x b1 y = s := ⟨_, rfl⟩
  obtain ⟨SS, hSS⟩ : ∃ s, sgAddB b0 x b1 y = s := ⟨_, rfl⟩
  have HNN := Lib.hid hNN
  have HSS := Lib.hid hSS
  rw [hNN] at PN ⊢
  rw [hSS]
  clear hNN hSS ESG HXD
  obtain ⟨XX, hXX⟩ : ∃ s, lowX NN 1 = s := ⟨_, rfl⟩
  obtain ⟨DD, hDD⟩ : ∃ s, lowD NN 1 = s := ⟨_, rfl⟩
  have HXX := Lib.hid hXX
  have HDD := Lib.hid hDD
  rw [hXX, hDD]
  clear hXX hDD
  go_enter Tryz.func178, Tryz.ntmps178
  go_wp2_with fail
  obtain ⟨W0, hW0⟩ : ∃ x, x = (((w.alloc (.cells #[.bool b0, .slice a0 nx c0, .slice e0 1 f0] 34)).alloc (.cells #[.bool b1, .slice a1 ny c1, .slice e1 1 f1] 34)).alloc (.cells #[.bool false, .slice none 0 0, .slice none 0 0] 34)) := ⟨_, rfl⟩
  have B := Lib.hid (show Below w.heap.size w W0 by rw [hW0]; exact ((((Below.refl _ _).alloc (Nat.le_refl _) _).alloc (by simp) _).alloc (by simp; omega) _))
  have D_x := Lib.hid (rx_at (show Rx W0 _ 34 (b0) (.slice a0 nx c0) (.slice e0 1 f0) by rw [hW0]; exact ((Rx.new _ _ _ _ _).alloc _).alloc _) (show w.heap.size = _ by simp))
  have D_y := Lib.hid (rx_at (show Rx W0 _ 34 (b1) (.slice a1 ny c1) (.slice e1 1 f1) by rw [hW0]; exact (Rx.new _ _ _ _ _).alloc _) (show (w.heap.size + 1) = _ by simp))
  have D_r := Lib.hid (rx_at (show Rx W0 _ 34 (false) (.slice none 0 0) (.slice none 0 0) by rw [hW0]; exact Rx.new _ _ _ _ _) (show (w.heap.size + 1 + 1) = _ by simp))
  have SZ := Lib.hid (show W0.heap.size = w.heap.size + 1 + 1 + 1 by rw [hW0]; simp)
  rw [← hW0]
  clear hW0
  have BB := Lib.hid (Below.refl W0.heap.size W0)
  refine (spec_isOne _ 1 _ (rowOf_below H0.out.2 B.out)).mono ?_
  rw [decide_eq_true rfl]
  rintro r9 w9 ⟨rfl, h9⟩
  replace h9 := h9.symm
  subst h9
  have c0_y := (D_y.out.below BB.out).c0
  have c1_y := (D_y.out.below BB.out).c1
  have c2_y := (D_y.out.below BB.out).c2
  go_wp2_with fail
  clear c0_y c1_y c2_y
  refine (spec_isOne _ 1 _ (rowOf_below H1.out.2 B.out)).mono ?_
  rw [decide_eq_true rfl]
  rintro r9 w9 ⟨rfl, h9⟩
  replace h9 := h9.symm
  subst h9
  have c0_x := (D_x.out.below BB.out).c0
  have c1_x := (D_x.out.below BB.out).c1
  have c2_x := (D_x.out.below BB.out).c2
  have c0_y := (D_y.out.below BB.out).c0
  have c1_y := (D_y.out.below BB.out).c1
  have c2_y := (D_y.out.below BB.out).c2
  go_wp2_with fail
  clear c0_x c1_x c2_x
  clear c0_y c1_y c2_y
  have hc9 := spec_addN b0 _ x b1 _ y W0 (rowOf_below H0.out.1 B.out) (rowOf_below H1.out.1 B.out) (by have := B_x.out; omega) (by have := B_y.out; omega) (by rw [HNN.out]; exact PN.out)
  rw [HNN.out, HSS.out] at hc9
  refine (hc9).mono ?_
  rintro e w1 ⟨v_n, rfl, o_n, bw1⟩
  obtain ⟨a_n, c_n, rfl⟩ := o_n.slice
  have O_n := Lib.hid (o_n.base BB.out.size)
  clear o_n
  replace B := Lib.hid (B.out.trans (bw1.mono B.out.size))
  replace BB := Lib.hid (BB.out.trans (bw1.mono BB.out.size))
  clear bw1
  have RL : ∀ (W : World), Below w1.heap.size w1 W → RowOf iV W (.slice a_n (limI NN).length c_n) (limI NN) := fun W hW => rowOf_below O_n.out.row hW
  have RLH := Lib.hid RL
  clear RL
  have M_s := Lib.hid (Bx.new w1 32 (SS && decide (0 < NN)) (.slice a_n (limI NN).length c_n))
  go_wp2_with fail
  obtain ⟨W5, hW5⟩ : ∃ X9, X9 = (w1.alloc (.cells #[.bool (SS && decide (0 < NN)), .slice a_n (limI NN).length c_n] 32)).alloc (.cells #[.int .i64 1] 3) := ⟨_, rfl⟩
  have bw5 : Below w1.heap.size w1 W5 := by rw [hW5]; exact ((Below.refl _ _).alloc (Nat.le_refl _) _).alloc (by simp) _
  have RN := Lib.hid (RLH.out _ bw5)
  have R1 := Lib.hid (show RowOf iV W5 (.slice (some ⟨w1.heap.size + 1, 0, none⟩) 1 1) (limI 1) by rw [hW5, limI_1]; have h := (OwnI.lit1 (w1.alloc (.cells #[.bool (SS && decide (0 < NN)), .slice a_n (limI NN).length c_n] 32)) _ 1 (Nat.le_refl _)).row; simp only [World.size_alloc] at h; exact h)
  rw [← hW5]
  clear hW5 M_s RLH
  replace O_n := Lib.hid (O_n.out.below bw5)
  replace B := Lib.hid (B.out.trans (bw5.mono B.out.size))
  replace BB := Lib.hid (BB.out.trans (bw5.mono BB.out.size))
  clear bw5
  have hc9 := spec_low (SS && decide (0 < NN)) _ NN _ 1 _ RN.out R1.out PN.out (by exact Nat.lt_of_lt_of_le (by decide : 1 < pw 1) (pw_mono (by omega)))
  rw [HXX.out, HDD.out] at hc9
  refine (hc9).mono ?_
  rintro e w2 ⟨v_q, d_q, rfl, u_q, bw2⟩
  obtain ⟨a_q, c_q, e_q, f_q, rfl, rfl⟩ := u_q.slices
  have hb5 := BB.out.size
  replace O_n := Lib.hid (O_n.out.below bw2)
  replace B := Lib.hid (B.out.trans (bw2.mono B.out.size))
  replace BB := Lib.hid (BB.out.trans (bw2.mono BB.out.size))
  clear bw2
  have c0_r := (D_r.out.below BB.out).c0
  have c1_r := (D_r.out.below BB.out).c1
  have c2_r := (D_r.out.below BB.out).c2
  have f0_r := (D_r.out.below BB.out).f 0
  have f1_r := (D_r.out.below BB.out).f 1
  have f2_r := (D_r.out.below BB.out).f 2
  have D9 := D_r.out.below BB.out
  obtain ⟨e1, e2⟩ := rat_end (b' := mkB (SS && decide (0 < NN)) XX DD) B.out D9 (OwnR.base (B' := W0.heap.size) u_q hb5) (by decide) (by have := SZ.out; omega) (by omega) (.slice a_q (mkZ XX DD).length c_q) (.slice e_q (mkD XX DD).length f_q)
  have D8 := Rx.set3 (b' := mkB (SS && decide (0 < NN)) XX DD) (v' := .slice a_q (mkZ XX DD).length c_q) (d' := .slice e_q (mkD XX DD).length f_q) D9
  have hc0 := D8.c0; have hc1 := D8.c1; have hc2 := D8.c2
  go_wp2
  exact bodyPost_ret (v := .agg #[.bool (mkB (SS && decide (0 < NN)) XX DD), .slice a_q (mkZ XX DD).length c_q, .slice e_q (mkD XX DD).length f_q]) (by simp [results, Tryz.results178, go_sem, hc0, hc1, hc2]) rfl ⟨_, _, rfl, e1, e2⟩
set_option maxHeartbeats 4000000 in
theorem spec_mulA (b0 : Bool) (v0 : Value) (x : Nat) (d0 : Value) (d : Nat) (b1 : Bool) (v1 : Value) (y : Nat) (d1 : Value) (e : Nat) (w : World) (h0 : RowR w v0 (limI x) d0 (limI d)) (h1 : RowR w v1 (limI y) d1 (limI e))
  (hx : x < pw 24) (hd : d < pw 24) (hy : y < pw 24) (he : e < pw 24) :
  Calls Tryz.prog 83 #[.agg #[.bool b0, v0, d0], .agg #[.bool b1, v1, d1]] w fun r w' => ∃ v dd, r = .returned (.agg #[.bool (mkB (!(b0 == b1)) (lowX (x * y) (d * e)) (lowD (x * y) (d * e))), v, dd]) ∧ OwnR w' w.heap.size v (mkZ (lowX (x * y) (d * e)) (lowD (x * y) (d * e))) dd (mkD (lowX (x * y) (d * e)) (lowD (x * y) (d * e))) ∧ Below w.heap.size w w' := by
 have P1 := Lib.hid (Nat.lt_trans (mul24 hx hy) (pw_lt (by omega : 48 < 60)))
 have P2 := Lib.hid (Nat.lt_trans (mul24 hd he) (pw_lt (by omega : 48 < 60)))
 have B_x := Lib.hid ((nlen_le_iff _ _).2 hx)
 have B_d := Lib.hid ((nlen_le_iff _ _).2 hd)
 have B_y := Lib.hid ((nlen_le_iff _ _).2 hy)
 have B_e := Lib.hid ((nlen_le_iff _ _).2 he)
 clear hx hd hy he
 have RA_x := Lib.hid h0.1
 have RA_d := Lib.hid h0.2
 obtain ⟨⟨a0, c0, rfl, z1, z2, z3⟩, ⟨e0, f0, rfl, z4, z5, z6⟩⟩ := h0
 clear z1 z2 z3 z4 z5 z6
 have RA_y := Lib.hid h1.1
 have RA_e := Lib.hid h1.2
 obtain ⟨⟨a1, c1, rfl, z1, z2, z3⟩, ⟨e1, f1, rfl, z4, z5, z6⟩⟩ := h1
 clear z1 z2 z3 z4 z5 z6
 have L_x := Lib.hid (limI_length x)
 rw [limI_length] at RA_x
 try rw [limI_length x]
 obtain ⟨nx, hnx⟩ : ∃ n, nlen x = n := ⟨_, rfl⟩
 rw [hnx] at RA_x L_x
 try rw [hnx]
 have N_x := Lib.hid hnx
 clear hnx
 have L_d := Lib.hid (limI_length d)
 rw [limI_length] at RA_d
 try rw [limI_length d]
 obtain ⟨nd, hnd⟩ : ∃ n, nlen d = n := ⟨_, rfl⟩
 rw [hnd] at RA_d L_d
 try rw [hnd]
 have N_d := Lib.hid hnd
 clear hnd
 have L_y := Lib.hid (limI_length y)
 rw [limI_length] at RA_y
 try rw [limI_length y]
 obtain ⟨ny, hny⟩ : ∃ n, nlen y = n := ⟨_, rfl⟩
 rw [hny] at RA_y L_y
 try rw [hny]
 have N_y := Lib.hid hny
 clear hny
 have L_e := Lib.hid (limI_length e)
 rw [limI_length] at RA_e
 try rw [limI_length e]
 obtain ⟨ne, hne⟩ : ∃ n, nlen e = n := ⟨_, rfl⟩
 rw [hne] at RA_e L_e
 try rw [hne]
 have N_e := Lib.hid hne
 clear hne
 obtain ⟨SS, hSS⟩ : ∃ s, (!(b0 == b1)) = s := ⟨_, rfl⟩
 obtain ⟨XX, hXX⟩ : ∃ s, (lowX (x * y) (d * e)) = s := ⟨_, rfl⟩
 obtain ⟨DD, hDD⟩ : ∃ s, (lowD (x * y) (d * e)) = s := ⟨_, rfl⟩
 rw [hSS, hXX, hDD]
 have HE := Lib.hid (And.intro hXX hDD)
 clear hXX hDD
 go_enter Tryz.func83, Tryz.ntmps83
 go_wp2_with fail
 obtain ⟨W0, hW0⟩ : ∃ x, x = (((w.alloc (.cells #[.bool b0, .slice a0 nx c0, .slice e0 nd f0] 34)).alloc (.cells #[.bool b1, .slice a1 ny c1, .slice e1 ne f1] 34)).alloc (.cells #[.bool false, .slice none 0 0, .slice none 0 0] 34)) := ⟨_, rfl⟩
 have B := Lib.hid (show Below w.heap.size w W0 by rw [hW0]; exact ((((Below.refl _ _).alloc (Nat.le_refl _) _).alloc (by simp) _).alloc (by simp; omega) _))
 have D_x := Lib.hid (rx_at (show Rx W0 _ 34 (b0) (.slice a0 nx c0) (.slice e0 nd f0) by rw [hW0]; exact ((Rx.new _ _ _ _ _).alloc _).alloc _) (show w.heap.size = _ by simp))
 have D_y := Lib.hid (rx_at (show Rx W0 _ 34 (b1) (.slice a1 ny c1) (.slice e1 ne f1) by rw [hW0]; exact (Rx.new _ _ _ _ _).alloc _) (show (w.heap.size + 1) = _ by simp))
 have D_r := Lib.hid (rx_at (show Rx W0 _ 34 (false) (.slice none 0 0) (.slice none 0 0) by rw [hW0]; exact Rx.new _ _ _ _ _) (show (w.heap.size + 1 + 1) = _ by simp))
 have SZ := Lib.hid (show W0.heap.size = w.heap.size + 1 + 1 + 1 by rw [hW0]; simp)
 rw [← hW0]
 clear hW0
 have BB := Lib.hid (Below.refl W0.heap.size W0)
 have K_a := Lib.hid (fun (W : World) (hW : Below W0.heap.size W0 W) => pre_own (R := fun v => v) (spec_mulAny _ _ x y W (rowOf_below (rowOf_below RA_x.out B.out) hW) (rowOf_below (rowOf_below RA_y.out B.out) hW) (by have := B_x.out; omega) (by have := B_y.out; omega)) hW)
 have K_b := Lib.hid (fun (W : World) (hW : Below W0.heap.size W0 W) => pre_own (R := fun v => v) (spec_mulAny _ _ d e W (rowOf_below (rowOf_below RA_d.out B.out) hW) (rowOf_below (rowOf_below RA_e.out B.out) hW) (by have := B_d.out; omega) (by have := B_e.out; omega)) hW)
 have K_q := Lib.hid (fun (W : World) (hW : Below W0.heap.size W0 W) (vv uu : Value) (hr : RowOf iV W vv (limI (x * y))) (hs : RowOf iV W uu (limI (d * e))) => pre_rat ((by have h := spec_low SS vv (x * y) uu (d * e) W hr hs P1.out P2.out; rw [HE.out.1, HE.out.2] at h; exact h)) hW)
 have c0_x := (D_x.out.below BB.out).c0
 have c1_x := (D_x.out.below BB.out).c1
 have c2_x := (D_x.out.below BB.out).c2
 have c0_y := (D_y.out.below BB.out).c0
 have c1_y := (D_y.out.below BB.out).c1
 have c2_y := (D_y.out.below BB.out).c2
 have HS := Lib.hid (show ∀ W : World, Below W0.heap.size W0 W → (W.cell? ⟨w.heap.size, 0, none⟩ = some (.bool b0) ∧ W.cell? ⟨w.heap.size, 1, none⟩ = some (.slice a0 nx c0) ∧ W.cell? ⟨w.heap.size, 2, none⟩ = some (.slice e0 nd f0) ∧ W.cell? ⟨(w.heap.size + 1), 0, none⟩ = some (.bool b1) ∧ W.cell? ⟨(w.heap.size + 1), 1, none⟩ = some (.slice a1 ny c1) ∧ W.cell? ⟨(w.heap.size + 1), 2, none⟩ = some (.slice e1 ne f1)) from fun W hW => ⟨(hW.cell (p := ⟨w.heap.size, 0, none⟩) (D_x.out.below BB.out).lt).trans c0_x, (hW.cell (p := ⟨w.heap.size, 1, none⟩) (D_x.out.below BB.out).lt).trans c1_x, (hW.cell (p := ⟨w.heap.size, 2, none⟩) (D_x.out.below BB.out).lt).trans c2_x, (hW.cell (p := ⟨(w.heap.size + 1), 0, none⟩) (D_y.out.below BB.out).lt).trans c0_y, (hW.cell (p := ⟨(w.heap.size + 1), 1, none⟩) (D_y.out.below BB.out).lt).trans c1_y, (hW.cell (p := ⟨(w.heap.size + 1), 2, none⟩) (D_y.out.below BB.out).lt).trans c2_y⟩)
 have lt_x := (D_x.out.below BB.out).lt
 have lt_y := (D_y.out.below BB.out).lt
 have c0_r := (D_r.out.below BB.out).c0
 have c1_r := (D_r.out.below BB.out).c1
 have c2_r := (D_r.out.below BB.out).c2
 have f0_r := (D_r.out.below BB.out).f 0
 have f1_r := (D_r.out.below BB.out).f 1
 have f2_r := (D_r.out.below BB.out).f 2
 have HF := Lib.hid (show ∀ W : World, Below W0.heap.size W0 W → (W.cell? ⟨(w.heap.size + 1 + 1), 0, none⟩ = some (.bool false) ∧ W.cell? ⟨(w.heap.size + 1 + 1), 1, none⟩ = some (.slice none 0 0) ∧ W.cell? ⟨(w.heap.size + 1 + 1), 2, none⟩ = some (.slice none 0 0) ∧ W.frozen? ⟨(w.heap.size + 1 + 1), 0, none⟩ = false ∧ W.frozen? ⟨(w.heap.size + 1 + 1), 1, none⟩ = false ∧ W.frozen? ⟨(w.heap.size + 1 + 1), 2, none⟩ = false) from fun W hW => ⟨(hW.cell (p := ⟨(w.heap.size + 1 + 1), 0, none⟩) (D_r.out.below BB.out).lt).trans c0_r, (hW.cell (p := ⟨(w.heap.size + 1 + 1), 1, none⟩) (D_r.out.below BB.out).lt).trans c1_r, (hW.cell (p := ⟨(w.heap.size + 1 + 1), 2, none⟩) (D_r.out.below BB.out).lt).trans c2_r, (hW.frozen (p := ⟨(w.heap.size + 1 + 1), 0, none⟩) (D_r.out.below BB.out).lt).trans f0_r, (hW.frozen (p := ⟨(w.heap.size + 1 + 1), 1, none⟩) (D_r.out.below BB.out).lt).trans f1_r, (hW.frozen (p := ⟨(w.heap.size + 1 + 1), 2, none⟩) (D_r.out.below BB.out).lt).trans f2_r⟩)
 go_region_held3 (fun w' => w'.cell? ⟨w.heap.size, 0, none⟩ = some (.bool b0) ∧ w'.cell? ⟨w.heap.size, 1, none⟩ = some (.slice a0 nx c0) ∧ w'.cell? ⟨w.heap.size, 2, none⟩ = some (.slice e0 nd f0) ∧ w'.cell? ⟨(w.heap.size + 1), 0, none⟩ = some (.bool b1) ∧ w'.cell? ⟨(w.heap.size + 1), 1, none⟩ = some (.slice a1 ny c1) ∧ w'.cell? ⟨(w.heap.size + 1), 2, none⟩ = some (.slice e1 ne f1)) (first | exact HS.out _ (by first | with_reducible exact Below.refl _ _ | with_reducible exact (Below.refl _ _).drew | with_reducible exact bb_a | with_reducible exact bb_b | with_reducible exact bb_q | fail) | exact ⟨(cell_far3 (show w.heap.size ≠ (w.heap.size + 1 + 1) from by omega) _ _ _).trans ((HS.out _ (by first | with_reducible exact Below.refl _ _ | with_reducible exact (Below.refl _ _).drew | with_reducible exact bb_a | with_reducible exact bb_b | with_reducible exact bb_q | fail)).1), (cell_far3 (show w.heap.size ≠ (w.heap.size + 1 + 1) from by omega) _ _ _).trans ((HS.out _ (by first | with_reducible exact Below.refl _ _ | with_reducible exact (Below.refl _ _).drew | with_reducible exact bb_a | with_reducible exact bb_b | with_reducible exact bb_q | fail)).2.1), (cell_far3 (show w.heap.size ≠ (w.heap.size + 1 + 1) from by omega) _ _ _).trans ((HS.out _ (by first | with_reducible exact Below.refl _ _ | with_reducible exact (Below.refl _ _).drew | with_reducible exact bb_a | with_reducible exact bb_b | with_reducible exact bb_q | fail)).2.2.1), (cell_far3 (show (w.heap.size + 1) ≠ (w.heap.size + 1 + 1) from by omega) _ _ _).trans ((HS.out _ (by first | with_reducible exact Below.refl _ _ | with_reducible exact (Below.refl _ _).drew | with_reducible exact bb_a | with_reducible exact bb_b | with_reducible exact bb_q | fail)).2.2.2.1), (cell_far3 (show (w.heap.size + 1) ≠ (w.heap.size + 1 + 1) from by omega) _ _ _).trans ((HS.out _ (by first | with_reducible exact Below.refl _ _ | with_reducible exact (Below.refl _ _).drew | with_reducible exact bb_a | with_reducible exact bb_b | with_reducible exact bb_q | fail)).2.2.2.2.1), (cell_far3 (show (w.heap.size + 1) ≠ (w.heap.size + 1 + 1) from by omega) _ _ _).trans ((HS.out _ (by first | with_reducible exact Below.refl _ _ | with_reducible exact (Below.refl _ _).drew | with_reducible exact bb_a | with_reducible exact bb_b | with_reducible exact bb_q | fail)).2.2.2.2.2)⟩)
  (first
   | (go_at_call 126; refine (K_q.out _ (by first | with_reducible exact Below.refl _ _ | with_reducible exact (Below.refl _ _).drew | with_reducible exact bb_a | with_reducible exact bb_b | with_reducible exact bb_q | fail) _ _ (by first | with_reducible exact o_a.row) (by first | with_reducible exact o_b.row)).mono ?_; rintro e w_q ⟨v_q, d_q, rfl, u_q, lo_q, bw_q, bb_q⟩; obtain ⟨a_q, c_q, e_q, f_q, rfl, rfl⟩ := u_q.slices; (try first | with_reducible (have o_a := o_a.below bw_q)); (try first | with_reducible (have o_b := o_b.below bw_q)); obtain ⟨s0, s1, s2, t0, t1, t2⟩ := HF.out _ bb_q)
   | (go_at_call 127; with_reducible refine (K_b.out _ (by first | with_reducible exact Below.refl _ _ | with_reducible exact (Below.refl _ _).drew | with_reducible exact bb_a | with_reducible exact bb_b | with_reducible exact bb_q | fail)).mono ?_; rintro e w_b ⟨v_b, rfl, o_b, lo_b, bw_b, bb_b⟩; obtain ⟨a_b, c_b, rfl⟩ := o_b.slice; (try first | with_reducible (have o_a := o_a.below bw_b)); (try first | with_reducible (have u_q := u_q.below bw_b)); obtain ⟨s0, s1, s2, t0, t1, t2⟩ := HF.out _ bb_b)
   | (go_at_call 127; with_reducible refine (K_a.out _ (by first | with_reducible exact Below.refl _ _ | with_reducible exact (Below.refl _ _).drew | with_reducible exact bb_a | with_reducible exact bb_b | with_reducible exact bb_q | fail)).mono ?_; rintro e w_a ⟨v_a, rfl, o_a, lo_a, bw_a, bb_a⟩; obtain ⟨a_a, c_a, rfl⟩ := o_a.slice; (try first | with_reducible (have o_b := o_b.below bw_a)); (try first | with_reducible (have u_q := u_q.below bw_a)); obtain ⟨s0, s1, s2, t0, t1, t2⟩ := HF.out _ bb_a))
 all_goals (have D9 := D_r.out.below (BB.out.trans (bb_q.mono BB.out.size)); obtain ⟨e1, e2⟩ := rat_end (b' := mkB SS XX DD) (B.out.trans (bb_q.mono B.out.size)) D9 (OwnR.base (B' := W0.heap.size) u_q BB.out.size) (by decide) (by have := SZ.out; omega) (by omega) (.slice a_q (mkZ XX DD).length c_q) (.slice e_q (mkD XX DD).length f_q); have D8 := Rx.set3 (b' := mkB SS XX DD) (v' := .slice a_q (mkZ XX DD).length c_q) (d' := .slice e_q (mkD XX DD).length f_q) D9; have hc0 := D8.c0; have hc1 := D8.c1; have hc2 := D8.c2; go_wp2; exact bodyPost_ret (v := .agg #[.bool (mkB SS XX DD), .slice a_q (mkZ XX DD).length c_q, .slice e_q (mkD XX DD).length f_q]) (by simp [results, Tryz.results83, go_sem, hc0, hc1, hc2]) rfl ⟨_, _, rfl, e1, e2⟩)
end Go.Proofs.YtlepgkkpopjgoaaGreat
