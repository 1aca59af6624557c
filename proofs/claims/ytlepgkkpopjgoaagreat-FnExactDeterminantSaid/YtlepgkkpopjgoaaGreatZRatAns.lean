/- What the fractions' functions answer, over plain numbers. -/
import Derived.Test.YtlepgkkpopjgoaaGreatZLow
namespace Go.Proofs.YtlepgkkpopjgoaaGreat
open Go.RowKit
set_option linter.unusedVariables false
set_option linter.unusedSimpArgs false

/-- is this a fraction that can be kept? -/
def okS (x d : Nat) : Bool := decide (0 < d) && decide (x < pw 24) && decide (d < pw 24)
def mkB (b : Bool) (x d : Nat) : Bool := okS x d && (b && decide (0 < x))
def mkZ (x d : Nat) : List Int := if okS x d then limI x else []
def mkD (x d : Nat) : List Int := if okS x d then limI d else []
theorem okS_iff {x d : Nat} : okS x d = true ↔ (0 < d ∧ x < pw 24 ∧ d < pw 24) := by unfold okS; simp [Bool.and_eq_true]; omega
theorem okS_no {x d : Nat} : okS x d = false ↔ ¬ (0 < d ∧ x < pw 24 ∧ d < pw 24) := by rw [← okS_iff]; simp
theorem okS_zero (x : Nat) : okS x 0 = false := by unfold okS; simp
theorem mk_yes {x d : Nat} (h : okS x d = true) (b : Bool) : mkB b x d = (b && decide (0 < x)) ∧ mkZ x d = limI x ∧ mkD x d = limI d := by
  unfold mkB mkZ mkD; rw [h]; exact ⟨by simp, rfl, rfl⟩
theorem mk_no {x d : Nat} (h : okS x d = false) (b : Bool) : mkB b x d = false ∧ mkZ x d = [] ∧ mkD x d = [] := by
  unfold mkB mkZ mkD; rw [h]; exact ⟨rfl, rfl, rfl⟩
theorem limI_pos (x : Nat) : (0 < (limI x).length) ↔ 0 < x := by rw [limI_length]; exact nlen_pos_iff x
theorem sgB_lim (b : Bool) (x : Nat) : sgB b (limI x) = (b && decide (0 < x)) := by
  unfold sgB; congr 1; exact decide_eq_decide.2 (limI_pos x)

/-- is a fraction that came in valid? -/
def ratOk (b : Bool) (zs ds : List Int) : Bool := bigOk b zs && okB ds && (decide (0 < ds.length) && decide (ds.length ≤ 24) && decide (zs.length ≤ 24)) && decide (Nat.gcd (natI zs) (natI ds) = 1)
theorem ratOk_parts {b : Bool} {zs ds : List Int} (h : ratOk b zs ds = true) : ∃ x d, zs = limI x ∧ ds = limI d ∧ x < pw 24 ∧ d < pw 24 ∧ 0 < d ∧ Nat.gcd x d = 1 ∧ (b = true → 0 < x) := by
  unfold ratOk at h
  simp only [Bool.and_eq_true, decide_eq_true_eq] at h
  obtain ⟨⟨⟨h1, h2⟩, ⟨h3, h4⟩, h5⟩, h6⟩ := h
  obtain ⟨x, rfl, hx⟩ := okB_cases (bigOk_ok h1)
  obtain ⟨d, rfl, hd⟩ := okB_cases h2
  rw [limI_length] at h4 h5
  rw [natI_limI, natI_limI] at h6
  refine ⟨x, d, rfl, rfl, (nlen_le_iff _ _).1 h5, (nlen_le_iff _ _).1 h4, (limI_pos d).1 h3, h6, fun hb => ?_⟩
  subst hb
  exact (limI_pos x).1 (bigOk_pos h1)
theorem ratOk_make {b : Bool} {x d : Nat} (hx : x < pw 24) (hd : d < pw 24) (h0 : 0 < d) (hb : b = true → 0 < x) : ratOk b (limI x) (limI d) = decide (Nat.gcd x d = 1) := by
  unfold ratOk
  have h1 : bigOk b (limI x) = true := by
    have h := okB_limI (Nat.lt_trans hx (pw_lt (by omega : 24 < 60)))
    cases b with
    | false => exact bigOk_plain h
    | true => rw [bigOk_neg h]; exact decide_eq_true ((limI_pos x).2 (hb rfl))
  have h2 := okB_limI (Nat.lt_trans hd (pw_lt (by omega : 24 < 60)))
  rw [h1, h2, natI_limI, natI_limI, limI_length, limI_length, decide_eq_true ((nlen_pos_iff d).2 h0), decide_eq_true ((nlen_le_iff 24 d).2 hd), decide_eq_true ((nlen_le_iff 24 x).2 hx)]
  simp
theorem ratOk_big {b : Bool} {zs ds : List Int} (h : bigOk b zs = false) : ratOk b zs ds = false := by unfold ratOk; rw [h]; simp
theorem ratOk_den {b : Bool} {zs ds : List Int} (h : okB ds = false) : ratOk b zs ds = false := by unfold ratOk; rw [h]; simp
theorem ratOk_len {b : Bool} {zs ds : List Int} (h : ¬ (0 < ds.length ∧ ds.length ≤ 24 ∧ zs.length ≤ 24)) : ratOk b zs ds = false := by
  unfold ratOk
  have : (decide (0 < ds.length) && decide (ds.length ≤ 24) && decide (zs.length ≤ 24)) = false := by simp; omega
  rw [this]; simp

/-! sums and products in lowest terms, as the program reaches them -/
theorem coprime_sum {a b n : Nat} {k : Nat} (ha : Nat.Coprime a n) (hb : n ∣ b) (hk : k = a + b ∨ k = a - b ∧ b ≤ a ∨ k = b - a ∧ a ≤ b) : Nat.Coprime k n := by
  have h : ∀ p, p ∣ k → p ∣ n → p ∣ a := fun p h1 h2 => by
    have h3 := Nat.dvd_trans h2 hb
    rcases hk with rfl | ⟨rfl, hle⟩ | ⟨rfl, hle⟩
    · exact (Nat.dvd_add_left h3).1 h1
    · have := Nat.dvd_add h1 h3; rwa [Nat.sub_add_cancel hle] at this
    · have := Nat.dvd_sub h3 h1; rwa [Nat.sub_sub_self hle] at this
  have h1 := h (Nat.gcd k n) (Nat.gcd_dvd_left _ _) (Nat.gcd_dvd_right _ _)
  have h2 := Nat.dvd_gcd h1 (Nat.gcd_dvd_right k n)
  rw [ha] at h2
  exact Nat.dvd_one.1 h2
/-- the numerator over the least common denominator, once more divided, is in lowest terms -/
theorem low_sum {n l r g : Nat} (hg : 0 < g) (hl : 0 < l) (hr : 0 < r) (hnl : Nat.Coprime n l) (hnr : Nat.Coprime n r) :
    lowX (n * g) (l * g * (r * g)) = n / Nat.gcd n g ∧ lowD (n * g) (l * g * (r * g)) = l * (r * g / Nat.gcd n g) := by
  have hq : 0 < Nat.gcd n g := Nat.gcd_pos_of_pos_right _ hg
  have hd : Nat.gcd n g ∣ r * g := Nat.dvd_trans (Nat.gcd_dvd_right n g) (Nat.dvd_mul_left g r)
  have e1 : l * g * (r * g) = l * (r * g) * g := by rw [Nat.mul_assoc, Nat.mul_comm g, ← Nat.mul_assoc]
  rw [e1, (low_times hg).1, (low_times hg).2]
  have e2 : r * g / Nat.gcd n g = r * (g / Nat.gcd n g) := by rw [Nat.mul_div_assoc _ (Nat.gcd_dvd_right n g)]
  have h1 : Nat.gcd (n / Nat.gcd n g) (g / Nat.gcd n g) = 1 := by rw [Nat.gcd_div (Nat.gcd_dvd_left n g) (Nat.gcd_dvd_right n g), Nat.div_self hq]
  have hdn : n / Nat.gcd n g ∣ n := Nat.div_dvd_of_dvd (Nat.gcd_dvd_left n g)
  have h2 : Nat.gcd (n / Nat.gcd n g) (l * (r * (g / Nat.gcd n g))) = 1 :=
    Nat.Coprime.mul_right (Nat.Coprime.coprime_dvd_left hdn hnl) (Nat.Coprime.mul_right (Nat.Coprime.coprime_dvd_left hdn hnr) h1)
  have h3 : 0 < g / Nat.gcd n g := Nat.div_pos (Nat.le_of_dvd hg (Nat.gcd_dvd_right n g)) hq
  have h4 := low_cross (a := n) (b := l * (r * g)) (x := n / Nat.gcd n g) (y := l * (r * (g / Nat.gcd n g))) (Nat.mul_pos hl (Nat.mul_pos hr hg)) (Nat.mul_pos hl (Nat.mul_pos hr h3)) (by
    have e3 : n = n / Nat.gcd n g * Nat.gcd n g := (Nat.div_mul_cancel (Nat.gcd_dvd_left n g)).symm
    have e4 : g = g / Nat.gcd n g * Nat.gcd n g := (Nat.div_mul_cancel (Nat.gcd_dvd_right n g)).symm
    generalize hQ : n / Nat.gcd n g = Q at *
    generalize hG : g / Nat.gcd n g = G at *
    generalize hK : Nat.gcd n g = K at *
    rw [e3, e4]
    simp only [Nat.mul_assoc, Nat.mul_comm, Nat.mul_left_comm])
  rw [h4.1, h4.2, (low_id h2).1, (low_id h2).2, e2]
  exact ⟨rfl, rfl⟩
/-- a product, each numerator against the other denominator -/
theorem low_prod {x d y e : Nat} (hd : 0 < d) (he : 0 < e) (h1 : Nat.gcd x d = 1) (h2 : Nat.gcd y e = 1) :
    lowX (x * y) (d * e) = lowX x e * lowX y d ∧ lowD (x * y) (d * e) = lowD y d * lowD x e := by
  have ge : 0 < Nat.gcd x e := gcd_pos' he
  have gd : 0 < Nat.gcd y d := gcd_pos' hd
  have hc : Nat.gcd (lowX x e * lowX y d) (lowD y d * lowD x e) = 1 := by
    have dx : lowX x e ∣ x := Nat.div_dvd_of_dvd (Nat.gcd_dvd_left x e)
    have dy : lowX y d ∣ y := Nat.div_dvd_of_dvd (Nat.gcd_dvd_left y d)
    have dd : lowD y d ∣ d := Nat.div_dvd_of_dvd (Nat.gcd_dvd_right y d)
    have de : lowD x e ∣ e := Nat.div_dvd_of_dvd (Nat.gcd_dvd_right x e)
    have a1 : Nat.Coprime (lowX x e) (lowD y d) := Nat.Coprime.coprime_dvd_left dx (Nat.Coprime.coprime_dvd_right dd h1)
    have a2 : Nat.Coprime (lowX x e) (lowD x e) := low_one he
    have a3 : Nat.Coprime (lowX y d) (lowD y d) := low_one hd
    have a4 : Nat.Coprime (lowX y d) (lowD x e) := Nat.Coprime.coprime_dvd_left dy (Nat.Coprime.coprime_dvd_right de h2)
    exact Nat.Coprime.mul_left (Nat.Coprime.mul_right a1 a2) (Nat.Coprime.mul_right a3 a4)
  have h4 := low_cross (a := x * y) (b := d * e) (x := lowX x e * lowX y d) (y := lowD y d * lowD x e) (Nat.mul_pos hd he) (Nat.mul_pos (lowD_pos hd) (lowD_pos he)) (by
    have e1 := lowX_mul x e; have e2 := lowD_mul x e; have e3 := lowX_mul y d; have e4 := lowD_mul y d
    generalize lowX x e = X at *
    generalize lowD x e = E at *
    generalize lowX y d = Y at *
    generalize lowD y d = D at *
    rw [← e1, ← e3]
    have e5 : d * e = (D * Nat.gcd y d) * (E * Nat.gcd x e) := by rw [e2, e4]
    rw [e5]
    generalize Nat.gcd x e = K
    generalize Nat.gcd y d = L
    simp only [Nat.mul_assoc, Nat.mul_comm, Nat.mul_left_comm])
  rw [h4.1, h4.2, (low_id hc).1, (low_id hc).2]
  exact ⟨rfl, rfl⟩
theorem sg_times {b0 b1 : Bool} {m n g : Nat} (hg : 0 < g) : sgAddB b0 (m * g) b1 (n * g) = sgAddB b0 m b1 n ∧ sgAddN b0 (m * g) b1 (n * g) = sgAddN b0 m b1 n * g := by
  unfold sgAddB sgAddN
  have h : (n * g ≤ m * g) ↔ n ≤ m := ⟨fun h => Nat.le_of_mul_le_mul_right h hg, fun h => Nat.mul_le_mul_right g h⟩
  by_cases hb : b0 = b1
  · rw [if_pos hb, if_pos hb, if_pos hb, if_pos hb]; exact ⟨rfl, (Nat.add_mul _ _ _).symm⟩
  · by_cases hn : n ≤ m
    · simp only [hb, hn, h, if_true, if_false]; exact ⟨trivial, (Nat.sub_mul _ _ _).symm⟩
    · simp only [hb, hn, h, if_true, if_false]; exact ⟨trivial, (Nat.sub_mul _ _ _).symm⟩
theorem sg_coprime {b0 b1 : Bool} {m n l : Nat} (hm : Nat.Coprime m l) (hn : l ∣ n) : Nat.Coprime (sgAddN b0 m b1 n) l := by
  apply coprime_sum hm hn
  unfold sgAddN
  by_cases hb : b0 = b1
  · rw [if_pos hb]; exact .inl rfl
  · rw [if_neg hb]
    by_cases h : n ≤ m
    · rw [if_pos h]; exact .inr (.inl ⟨rfl, h⟩)
    · rw [if_neg h]; exact .inr (.inr ⟨rfl, by omega⟩)
theorem sgAddN_comm (b0 b1 : Bool) (m n : Nat) : sgAddN b0 m b1 n = sgAddN b1 n b0 m := by
  unfold sgAddN
  by_cases hb : b0 = b1
  · rw [if_pos hb, if_pos hb.symm, Nat.add_comm]
  · rw [if_neg hb, if_neg (show ¬ b1 = b0 from fun h => hb h.symm)]
    split <;> split <;> omega
theorem sgAddN_le (b0 b1 : Bool) (m n : Nat) : sgAddN b0 m b1 n ≤ m + n := by
  unfold sgAddN; split; omega; split <;> omega
/-- the sum of two fractions, as the program reaches it: g the common divisor of the denominators, l and r what is left of them -/
theorem low_add {b0 b1 : Bool} {x d y e : Nat} (hd : 0 < d) (he : 0 < e) (h1 : Nat.gcd x d = 1) (h2 : Nat.gcd y e = 1) :
    ∃ N, N = sgAddN b0 (x * (e / Nat.gcd d e)) b1 (y * (d / Nat.gcd d e)) ∧
      lowX (sgAddN b0 (x * e) b1 (y * d)) (d * e) = N / Nat.gcd N (Nat.gcd d e) ∧
      lowD (sgAddN b0 (x * e) b1 (y * d)) (d * e) = d / Nat.gcd d e * (e / Nat.gcd N (Nat.gcd d e)) ∧
      sgAddB b0 (x * e) b1 (y * d) = sgAddB b0 (x * (e / Nat.gcd d e)) b1 (y * (d / Nat.gcd d e)) := by
  have hg : 0 < Nat.gcd d e := gcd_pos' he
  have el : d = d / Nat.gcd d e * Nat.gcd d e := (Nat.div_mul_cancel (Nat.gcd_dvd_left d e)).symm
  have er : e = e / Nat.gcd d e * Nat.gcd d e := (Nat.div_mul_cancel (Nat.gcd_dvd_right d e)).symm
  have hlr : Nat.Coprime (d / Nat.gcd d e) (e / Nat.gcd d e) := by
    show Nat.gcd _ _ = 1
    rw [Nat.gcd_div (Nat.gcd_dvd_left d e) (Nat.gcd_dvd_right d e), Nat.div_self hg]
  have hl : 0 < d / Nat.gcd d e := Nat.div_pos (Nat.le_of_dvd hd (Nat.gcd_dvd_left d e)) hg
  have hr : 0 < e / Nat.gcd d e := Nat.div_pos (Nat.le_of_dvd he (Nat.gcd_dvd_right d e)) hg
  have hxl : Nat.Coprime x (d / Nat.gcd d e) := Nat.Coprime.coprime_dvd_right (Nat.div_dvd_of_dvd (Nat.gcd_dvd_left d e)) h1
  have hyr : Nat.Coprime y (e / Nat.gcd d e) := Nat.Coprime.coprime_dvd_right (Nat.div_dvd_of_dvd (Nat.gcd_dvd_right d e)) h2
  generalize Nat.gcd d e = g at *
  generalize d / g = l at *
  generalize e / g = r at *
  subst el er
  refine ⟨_, rfl, ?_⟩
  have e1 : x * (r * g) = x * r * g := (Nat.mul_assoc _ _ _).symm
  have e2 : y * (l * g) = y * l * g := (Nat.mul_assoc _ _ _).symm
  rw [e1, e2, (sg_times hg).1, (sg_times hg).2]
  have c1 : Nat.Coprime (sgAddN b0 (x * r) b1 (y * l)) l := sg_coprime (Nat.Coprime.mul_left hxl hlr.symm) (Nat.dvd_mul_left l y)
  have c2 : Nat.Coprime (sgAddN b0 (x * r) b1 (y * l)) r := by
    rw [sgAddN_comm]
    exact sg_coprime (Nat.Coprime.mul_left hyr hlr) (Nat.dvd_mul_left r x)
  have h := low_sum hg hl hr c1 c2
  exact ⟨h.1, h.2, rfl⟩

theorem div_pos_iff {n k : Nat} (h : k ∣ n) (hk : 0 < k) : 0 < n ↔ 0 < n / k := by
  obtain ⟨m, rfl⟩ := h
  rw [Nat.mul_div_cancel_left _ hk]
  exact ⟨fun h => Nat.pos_of_mul_pos_left h, fun h => Nat.mul_pos hk h⟩
theorem big_lim {b : Bool} {x : Nat} (hx : x < pw 60) (hb : b = true → 0 < x) : bigOk b (limI x) = true := by
  have h := okB_limI hx
  cases b with
  | false => exact bigOk_plain h
  | true => rw [bigOk_neg h]; exact decide_eq_true ((limI_pos x).2 (hb rfl))
end Go.Proofs.YtlepgkkpopjgoaaGreat
