/- Plain facts on division of numbers in base 1000000000 by a divisor of two limbs or more (Knuth's Algorithm D). -/
import Derived.Test.YtofmpfcbdemcnaaDoorNum2
namespace Go.Proofs.YtofmpfcbdemcnaaDoor

/-! the scale -/
theorem scale_fact {t s : Nat} (h1 : 1 ≤ t) (h2 : t < 1000000000) (hs : s = 1000000000 / (t + 1)) : 1 ≤ s ∧ s ≤ 500000000 ∧ 500000000 ≤ t * s ∧ (t + 1) * s ≤ 1000000000 := by
  have a : (t + 1) * s ≤ 1000000000 := by rw [hs]; exact Nat.mul_div_le _ _
  have b : 1000000000 < (t + 1) * s + (t + 1) := by
    have := Nat.lt_mul_div_succ 1000000000 (show 0 < t + 1 by omega)
    rw [← hs, Nat.mul_succ] at this
    exact this
  have c : 1 ≤ s := by rw [hs]; exact (Nat.le_div_iff_mul_le (by omega)).2 (by omega)
  have d : s ≤ 500000000 := by
    have : 2 * s ≤ (t + 1) * s := Nat.mul_le_mul_right _ (by omega)
    omega
  refine ⟨c, d, ?_, a⟩
  rcases Nat.lt_or_ge t 500000000 with ht | ht
  · -- 2 t s (t+1) ≥ 2 t (b - t) ≥ (b - 1) (t + 1)
    rcases Nat.lt_or_ge (t * s) 500000000 with h | h
    · exfalso
      have e1 : (t + 1) * s = t * s + s := by rw [Nat.add_mul, Nat.one_mul]
      -- s ≥ b - t - t s > b - t - h, so s > h - t
      have e2 : 500000000 - t < s := by omega
      have e3 : t * (500000000 - t + 1) ≤ t * s := Nat.mul_le_mul_left _ (by omega)
      have e4 : t * (500000000 - t + 1) < 500000000 := by omega
      obtain ⟨u, hu⟩ : ∃ u, t = u + 1 := ⟨t - 1, by omega⟩
      subst hu
      -- (u + 1) (h - u) < h, so u (h - u - 1) < 0
      have e5 : (u + 1) * (500000000 - (u + 1) + 1) = u * (500000000 - u) + (500000000 - u) := by
        rw [show 500000000 - (u + 1) + 1 = 500000000 - u by omega, Nat.add_mul, Nat.one_mul]
      have e6 : u * (500000000 - u) < u := by omega
      have e7 : u * 1 ≤ u * (500000000 - u) := Nat.mul_le_mul_left _ (by omega)
      omega
    · exact h
  · have : t * 1 ≤ t * s := Nat.mul_le_mul_left _ c
    omega
theorem top_bounds {y n : Nat} (h : nlen y = n + 1) : dig y n * pw n ≤ y ∧ y < (dig y n + 1) * pw n ∧ 1 ≤ dig y n := by
  have h1 : y < pw (n + 1) := by rw [← h]; exact lt_pw_nlen y
  have h2 : pw n ≤ y := le_of_lt_nlen (by omega)
  rw [dig_of_lt h1]
  refine ⟨Nat.div_mul_le_self _ _, ?_, ?_⟩
  · rw [Nat.mul_comm]
    have := Nat.lt_mul_div_succ y (pw_pos n)
    exact this
  · exact (Nat.le_div_iff_mul_le (pw_pos n)).2 (by omega)
/-- the scaled divisor has as many limbs, and its top limb is at least half of the base -/
theorem scaled {y n s : Nat} (h : nlen y = n + 1) (hs : s = 1000000000 / (dig y n + 1)) : nlen (y * s) = n + 1 ∧ 500000000 ≤ dig (y * s) n ∧ 1 ≤ s ∧ s ≤ 500000000 := by
  obtain ⟨b1, b2, b3⟩ := top_bounds h
  obtain ⟨s1, s2, s3, s4⟩ := scale_fact b3 (dig_lt y n) hs
  have u : y * s < pw (n + 1) := by
    have a : y * s < (dig y n + 1) * pw n * s := Nat.mul_lt_mul_of_lt_of_le b2 (Nat.le_refl s) (by omega)
    have b : (dig y n + 1) * pw n * s = (dig y n + 1) * s * pw n := by rw [Nat.mul_assoc, Nat.mul_comm (pw n), ← Nat.mul_assoc]
    have c : (dig y n + 1) * s * pw n ≤ 1000000000 * pw n := Nat.mul_le_mul_right _ s4
    rw [pw_succ]; omega
  have l : 500000000 * pw n ≤ y * s := by
    have a : dig y n * pw n * s ≤ y * s := Nat.mul_le_mul_right _ b1
    have b : dig y n * pw n * s = dig y n * s * pw n := by rw [Nat.mul_assoc, Nat.mul_comm (pw n), ← Nat.mul_assoc]
    have c : 500000000 * pw n ≤ dig y n * s * pw n := Nat.mul_le_mul_right _ s3
    omega
  have hd : 500000000 ≤ dig (y * s) n := by
    rw [dig_of_lt u]
    exact (Nat.le_div_iff_mul_le (pw_pos n)).2 l
  exact ⟨nlen_of_top u (by omega), hd, s1, s2⟩

/-! a row of limbs of which some are replaced -/
def putN (R o len P : Nat) : Nat := R / pw (o + len) * pw (o + len) + P * pw o + R % pw o
theorem putN_mod_low (R o len P : Nat) : putN R o len P % pw o = R % pw o := by
  unfold putN
  have e : R / pw (o + len) * pw (o + len) + P * pw o + R % pw o = R % pw o + pw o * (R / pw (o + len) * pw len + P) := by
    rw [pw_add]; generalize R / (pw o * pw len) = a; generalize pw o = p; generalize pw len = q; grind
  rw [e, Nat.add_mul_mod_self_left, Nat.mod_mod]
theorem putN_div (R o len P : Nat) : putN R o len P / pw o = R / pw (o + len) * pw len + P := by
  unfold putN
  have e : R / pw (o + len) * pw (o + len) + P * pw o + R % pw o = R % pw o + pw o * (R / pw (o + len) * pw len + P) := by
    rw [pw_add]; generalize R / (pw o * pw len) = a; generalize pw o = p; generalize pw len = q; grind
  rw [e, Nat.add_mul_div_left _ _ (pw_pos o), Nat.div_eq_of_lt (Nat.mod_lt _ (pw_pos o)), Nat.zero_add]
theorem putN_low {R o len P j : Nat} (h : j < o) : dig (putN R o len P) j = dig R j := by
  rw [← dig_mod h, putN_mod_low, dig_mod h]
theorem putN_mid {R o len P j : Nat} (h : j < len) : dig (putN R o len P) (o + j) = dig P j := by
  rw [← dig_div, putN_div, ← dig_mod h, Nat.mul_comm, Nat.mul_add_mod, dig_mod h]
theorem putN_high {R o len P j : Nat} (hP : P < pw len) : dig (putN R o len P) (o + len + j) = dig R (o + len + j) := by
  rw [← dig_div, ← dig_div]
  congr 1
  rw [pw_add, ← Nat.div_div_eq_div_mul, putN_div, Nat.mul_comm, Nat.mul_add_div (pw_pos len), Nat.div_eq_of_lt hP, Nat.add_zero, pw_add]

/-- a limb of a multiple that is reckoned below place len alone -/
theorem com_digM (m n : Int) (x y i len t : Nat) (hi : i < len) (ht : (t : Int) = (m * (x : Int) + n * (y : Int)) % (pw len : Int)) : ((dig t i : Nat) : Int) = (comC m n x y i + m * (dig x i : Int) + n * (dig y i : Int)) % 1000000000 := by
  rw [← comP_div]
  obtain ⟨z, hz⟩ : ∃ z : Int, (t : Int) = m * (x : Int) + n * (y : Int) + (pw len : Int) * z := ⟨-((m * (x : Int) + n * (y : Int)) / (pw len : Int)), by rw [ht, Int.emod_def, Int.mul_neg]; omega⟩
  obtain ⟨k, hk⟩ := Nat.exists_eq_add_of_lt hi
  have hl : pw len = pw (i + 1) * pw k := by rw [hk, ← pw_add]; congr 1; omega
  have e1 : (t : Int) = comP m n x y (i + 1) + (pw (i + 1) : Int) * (m * ((x / pw (i + 1) : Nat) : Int) + n * ((y / pw (i + 1) : Nat) : Int) + (pw k : Int) * z) := by
    rw [hz, hl]
    unfold comP
    have hx : (x : Int) = (x % pw (i + 1) : Nat) + (pw (i + 1) : Int) * (x / pw (i + 1) : Nat) := by
      rw [← Int.natCast_mul, ← Int.natCast_add, Nat.mod_add_div]
    have hy : (y : Int) = (y % pw (i + 1) : Nat) + (pw (i + 1) : Int) * (y / pw (i + 1) : Nat) := by
      rw [← Int.natCast_mul, ← Int.natCast_add, Nat.mod_add_div]
    rw [Int.natCast_mul]
    generalize (x % pw (i + 1) : Nat) = xa at *
    generalize (x / pw (i + 1) : Nat) = xb at *
    generalize (y % pw (i + 1) : Nat) = ya at *
    generalize (y / pw (i + 1) : Nat) = yb at *
    generalize pw (i + 1) = p at *
    rw [hx, hy]
    grind
  have hpi : (pw i : Int) ≠ 0 := by have := pw_pos i; omega
  unfold dig
  rw [Int.natCast_emod, Int.natCast_ediv, e1, pw_succ]
  generalize comP m n x y (i + 1) = P
  generalize m * ((x / (pw i * 1000000000) : Nat) : Int) + n * ((y / (pw i * 1000000000) : Nat) : Int) + (pw k : Int) * z = k'
  rw [show P + ((pw i * 1000000000 : Nat) : Int) * k' = P + (pw i : Int) * (1000000000 * k') by rw [Int.natCast_mul, Int.mul_assoc]; rfl]
  rw [Int.add_mul_ediv_left _ _ hpi]
  show (P / (pw i : Int) + 1000000000 * k') % 1000000000 = _
  omega
theorem comC_full {m n : Int} {x y len : Nat} (hx : x < pw len) (hy : y < pw len) : comC m n x y len = (m * (x : Int) + n * (y : Int)) / (pw len : Int) := by
  unfold comC comP; rw [Nat.mod_eq_of_lt hx, Nat.mod_eq_of_lt hy]
theorem neg_iff {a p : Int} (hp : 0 < p) : a / p < 0 ↔ a < 0 := by
  constructor
  · intro h
    rcases Int.lt_or_le a 0 with h1 | h1
    · exact h1
    · have := Int.ediv_nonneg h1 (Int.le_of_lt hp); omega
  · intro h
    exact Int.ediv_neg_of_neg_of_pos h hp

/-! the guess: the quotient of the three leading limbs and the two leading ones -/
theorem guess_test {top p0 v1 v2 q r : Nat} (hv : 0 < v1) (hr : top = q * v1 + r) : (r * 1000000000 + p0 < q * v2) ↔ (top * 1000000000 + p0) / (v1 * 1000000000 + v2) < q := by
  have hV : 0 < v1 * 1000000000 + v2 := by omega
  rw [Nat.div_lt_iff_lt_mul hV]
  have e : q * (v1 * 1000000000 + v2) = q * v1 * 1000000000 + q * v2 := by rw [Nat.mul_add, Nat.mul_assoc]
  rw [e, hr, Nat.add_mul]
  omega
theorem guess_first {top p0 v1 v2 : Nat} (hv : 0 < v1) (hp : p0 < 1000000000) : (top * 1000000000 + p0) / (v1 * 1000000000 + v2) ≤ top / v1 := by
  rw [Nat.le_div_iff_mul_le hv]
  have h := Nat.div_mul_le_self (top * 1000000000 + p0) (v1 * 1000000000 + v2)
  generalize (top * 1000000000 + p0) / (v1 * 1000000000 + v2) = g at *
  have e : g * (v1 * 1000000000 + v2) = g * v1 * 1000000000 + g * v2 := by rw [Nat.mul_add, Nat.mul_assoc]
  rw [e] at h
  omega
theorem guess_small {top v1 : Nat} (ht : top < 1000000000000000000) (hv : 500000000 ≤ v1) : top / v1 < 2000000000 := by
  rw [Nat.div_lt_iff_lt_mul (by omega)]
  have : 2000000000 * 500000000 ≤ 2000000000 * v1 := Nat.mul_le_mul_left _ hv
  omega

/-- a step of the long division at place i: the digit, and what is left -/
def knQ (v n R i : Nat) : Nat :=
  let P := R / pw i % pw (n + 3)
  let g := P / pw n / (v / pw n)
  if P < g * v then g - 1 else g
def knP (v n R i : Nat) : Nat :=
  let P := R / pw i % pw (n + 3)
  let g := P / pw n / (v / pw n)
  if P < g * v then ((((P : Int) - (g : Int) * (v : Int)) % (pw (n + 3) : Int)).toNat + v) % pw (n + 3) else P - g * v
def knR (v n R i : Nat) : Nat := putN R i (n + 3) (knP v n R i)

theorem kn_guess {P v n : Nat} (hv : nlen v = n + 2) (hP : P < v * 1000000000) : P / v ≤ P / pw n / (v / pw n) ∧ P / pw n / (v / pw n) ≤ P / v + 1 := by
  have hvl : pw (n + 1) ≤ v := le_of_lt_nlen (by omega)
  have hp := pw_pos n
  have h3 : 0 < v := by have := pw_pos (n + 1); omega
  have h1 : 1000000000 ≤ v / pw n := (Nat.le_div_iff_mul_le hp).2 (by rw [pw_succ] at hvl; rw [Nat.mul_comm]; exact hvl)
  have a1 := Nat.div_mul_le_self v (pw n)
  have a2 : v < (v / pw n + 1) * pw n := by
    have := Nat.lt_mul_div_succ v hp
    rw [Nat.mul_comm]; exact this
  obtain ⟨V, hV⟩ : ∃ V, v / pw n = V := ⟨_, rfl⟩
  rw [hV] at h1 a1 a2 ⊢
  have hU := Nat.div_mul_le_self P (pw n)
  obtain ⟨U, hUe⟩ : ∃ U, P / pw n = U := ⟨_, rfl⟩
  have hU2 : U < (V + 1) * 1000000000 := by
    rw [← hUe, Nat.div_lt_iff_lt_mul hp]
    have : v * 1000000000 < (V + 1) * pw n * 1000000000 := Nat.mul_lt_mul_of_pos_right a2 (by omega)
    have e : (V + 1) * pw n * 1000000000 = (V + 1) * 1000000000 * pw n := by rw [Nat.mul_assoc, Nat.mul_comm (pw n), ← Nat.mul_assoc]
    omega
  rw [hUe] at hU ⊢
  have hg := Nat.div_mul_le_self U V
  have hV0 : 0 < V := by omega
  have hgl : U / V ≤ 1000000000 := by
    refine Nat.le_of_lt_succ ((Nat.div_lt_iff_lt_mul hV0).2 ?_)
    rw [Nat.succ_mul]
    rw [Nat.add_mul] at hU2
    omega
  constructor
  · rw [Nat.le_div_iff_mul_le hV0, ← hUe, Nat.le_div_iff_mul_le hp]
    have b1 := Nat.div_mul_le_self P v
    have b2 : P / v * (V * pw n) ≤ P / v * v := Nat.mul_le_mul_left _ a1
    rw [Nat.mul_assoc]; omega
  · obtain ⟨g, hge⟩ : ∃ g, U / V = g := ⟨_, rfl⟩
    rw [hge] at hg hgl ⊢
    cases g with
    | zero => exact Nat.zero_le _
    | succ g =>
      refine Nat.succ_le_succ ((Nat.le_div_iff_mul_le h3).2 ?_)
      have c1 : g * v ≤ g * ((V + 1) * pw n) := Nat.mul_le_mul_left _ (by omega)
      have c2 : (g + 1) * V * pw n ≤ U * pw n := Nat.mul_le_mul_right _ hg
      have c3 : g * ((V + 1) * pw n) ≤ (g + 1) * V * pw n := by
        rw [← Nat.mul_assoc]
        refine Nat.mul_le_mul_right _ ?_
        rw [Nat.mul_succ, Nat.succ_mul]; omega
      omega
/-- where what is left is small, the digit and what is left behind are the quotient's and the remainder's -/
theorem kn_right {v n R i : Nat} (hv : nlen v = n + 2) (hR : R < v * pw (i + 1)) : knQ v n R i = R / pw i / v ∧ knR v n R i = R % (v * pw i) := by
  have hvu : v < pw (n + 2) := by rw [← hv]; exact lt_pw_nlen v
  have h3 : 0 < v := by
    have h1 : pw (n + 1) ≤ v := le_of_lt_nlen (by omega)
    have := pw_pos (n + 1); omega
  have hP : R / pw i < v * 1000000000 := by
    rw [Nat.div_lt_iff_lt_mul (pw_pos i)]
    rw [pw_succ, Nat.mul_comm (pw i), ← Nat.mul_assoc] at hR; exact hR
  have hPm : R / pw i % pw (n + 3) = R / pw i := by
    refine Nat.mod_eq_of_lt (Nat.lt_trans hP ?_)
    rw [show n + 3 = (n + 2) + 1 from rfl, pw_succ]
    exact Nat.mul_lt_mul_of_pos_right hvu (by omega)
  have hR0 : R / pw (i + (n + 3)) = 0 := by
    refine Nat.div_eq_of_lt (Nat.lt_of_lt_of_le hR ?_)
    have : v * pw (i + 1) ≤ pw (n + 2) * pw (i + 1) := Nat.mul_le_mul_right _ (by omega)
    rw [← pw_add] at this
    rw [show i + (n + 3) = n + 2 + (i + 1) by omega]; exact this
  have hvM : v < pw (n + 3) := Nat.lt_trans hvu (pw_lt (by omega))
  have key : knQ v n R i = R / pw i / v ∧ knP v n R i = R / pw i % v := by
    unfold knQ knP
    rw [hPm]
    obtain ⟨P, hPe⟩ : ∃ P, R / pw i = P := ⟨_, rfl⟩
    rw [hPe] at hP ⊢
    obtain ⟨g1, g2⟩ := kn_guess hv hP
    obtain ⟨g, hg⟩ : ∃ g, P / pw n / (v / pw n) = g := ⟨_, rfl⟩
    rw [hg] at g1 g2
    simp only [hg]
    have e := Nat.div_add_mod P v
    have hm := Nat.mod_lt P h3
    obtain ⟨t, ht⟩ : ∃ t, P / v = t := ⟨_, rfl⟩
    obtain ⟨r, hr⟩ : ∃ r, P % v = r := ⟨_, rfl⟩
    rw [ht, hr] at e
    rw [ht] at g1 g2 ⊢
    rw [hr] at hm ⊢
    rcases (show g = t ∨ g = t + 1 by omega) with h | h
    · subst h
      have e2 : g * v = v * g := Nat.mul_comm _ _
      rw [if_neg (by omega), if_neg (by omega)]
      exact ⟨rfl, by omega⟩
    · subst h
      have e2 : (t + 1) * v = v * t + v := by rw [Nat.succ_mul, Nat.mul_comm]
      have e3 : ((P : Int) - ((t + 1 : Nat) : Int) * (v : Int)) = (r : Int) - (v : Int) := by
        rw [← Int.natCast_mul, e2, ← e]; omega
      rw [if_pos (by omega), if_pos (by omega), e3]
      refine ⟨by omega, ?_⟩
      have e4 : (((r : Int) - (v : Int)) % (pw (n + 3) : Int)) = (pw (n + 3) : Int) + (r : Int) - (v : Int) := by
        rw [show (r : Int) - (v : Int) = ((pw (n + 3) : Int) + (r : Int) - (v : Int)) + (pw (n + 3) : Int) * (-1) by omega, Int.add_mul_emod_self_left]
        exact Int.emod_eq_of_lt (by omega) (by omega)
      rw [e4]
      have e5 : ((pw (n + 3) : Int) + (r : Int) - (v : Int)).toNat + v = pw (n + 3) + r := by omega
      rw [e5, Nat.add_mod_left]
      exact Nat.mod_eq_of_lt (by omega)
  refine ⟨key.1, ?_⟩
  unfold knR putN
  rw [key.2, hR0, Nat.zero_mul, Nat.zero_add, Nat.mul_comm v, Nat.mod_mul]
  rw [Nat.mul_comm (pw i)]; omega

/-- the rounds: what is left, and the digits -/
def knF (v n : Nat) (s : Nat × (Nat → Int)) (i : Nat) : Nat × (Nat → Int) := (knR v n s.1 i, fun j => if j = i then (knQ v n s.1 i : Int) else s.2 j)
def knA (v n U : Nat) (l : List Nat) : Nat × (Nat → Int) := l.foldl (knF v n) (U, fun _ => 0)
theorem knA_snoc (v n U : Nat) (l : List Nat) (i : Nat) : knA v n U (l ++ [i]) = knF v n (knA v n U l) i := by simp [knA]
theorem kn_digit {U v i : Nat} : U % (v * pw (i + 1)) / pw i / v = dig (U / v) i := by
  rw [Nat.div_div_eq_div_mul, pw_succ, ← Nat.mul_assoc, Nat.mul_comm (pw i) v, Nat.mod_mul_right_div_self]
  unfold dig
  rw [Nat.div_div_eq_div_mul]
theorem kn_rest {U v i : Nat} : U % (v * pw (i + 1)) % (v * pw i) = U % (v * pw i) := by
  refine Nat.mod_mod_of_dvd _ ?_
  rw [pw_succ, ← Nat.mul_assoc]
  exact Nat.dvd_mul_right _ _
theorem mod_lt_mul {U v i : Nat} (hv : 0 < v) : U % (v * pw i) < v * pw i := Nat.mod_lt _ (Nat.mul_pos hv (pw_pos i))

end Go.Proofs.YtofmpfcbdemcnaaDoor
