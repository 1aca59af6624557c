/- Plain facts on sums and products of numbers in base 1000000000, limb by limb, as a loop over the limbs reckons them. -/
import Derived.Test.YtofmpfcbdemcnaaDoorNum2
namespace Go.Proofs.YtofmpfcbdemcnaaDoor

theorem comC_nonneg {x y i : Nat} : 0 ≤ comC 1 1 x y i := by
  unfold comC comP
  exact Int.ediv_nonneg (by omega) (by omega)
theorem comC_sum (x y i : Nat) : comC 1 1 x y i = (((x % pw i + y % pw i) / pw i : Nat) : Int) := by
  unfold comC comP
  rw [Int.one_mul, Int.one_mul, ← Int.natCast_add, ← Int.natCast_ediv]
theorem comC_done {x y i : Nat} (hx : nlen x ≤ i) (hy : nlen y ≤ i) (h : comC 1 1 x y i = 0) : nlen (x + y) ≤ i := by
  rw [comC_sum, Nat.mod_eq_of_lt ((nlen_le_iff _ _).1 hx), Nat.mod_eq_of_lt ((nlen_le_iff _ _).1 hy)] at h
  rw [nlen_le_iff]
  have h1 : (x + y) / pw i = 0 := by omega
  rcases Nat.div_eq_zero_iff.1 h1 with h2 | h2
  · have := pw_pos i; omega
  · exact h2
theorem comC_last {x y i : Nat} (hx : nlen x < i) (hy : nlen y < i) : comC 1 1 x y i = 0 := by
  obtain ⟨k, rfl⟩ : ∃ k, i = k + 1 := ⟨i - 1, by omega⟩
  have h1 := (nlen_le_iff k x).1 (by omega)
  have h2 := (nlen_le_iff k y).1 (by omega)
  rw [comC_sum]
  have h3 := Nat.mod_le x (pw (k + 1))
  have h4 := Nat.mod_le y (pw (k + 1))
  rw [Nat.div_eq_of_lt (by rw [pw_succ] at *; omega)]
  rfl
/-- the borrow is 0 or 1 -/
theorem comC_less (x y i : Nat) : -1 ≤ comC 1 (-1) x y i ∧ comC 1 (-1) x y i ≤ 0 := by
  unfold comC comP
  have hp := pw_pos i
  have h1 := Nat.mod_lt x hp
  have h2 := Nat.mod_lt y hp
  generalize x % pw i = a at *
  generalize y % pw i = b at *
  generalize pw i = p at *
  constructor
  · rw [Int.le_ediv_iff_mul_le (by omega)]; omega
  · have h3 : (1 * (a : Int) + -1 * (b : Int)) / (p : Int) < 1 := Int.ediv_lt_of_lt_mul (by omega) (by omega)
    omega

/-! the product: P is what the lower limbs of one number make, d its next limb at place i, y the other number -/
def mulR (P d y i k : Nat) : Nat := P % pw (i + k) + pw i * d * (y % pw k)
def mulC (P d y i k : Nat) : Nat := mulR P d y i k / pw (i + k)
theorem mulC_zero (P d y i : Nat) : mulC P d y i 0 = 0 := by
  unfold mulC mulR
  rw [pw_zero, Nat.mod_one, Nat.mul_zero, Nat.add_zero, Nat.add_zero]
  exact Nat.div_eq_of_lt (Nat.mod_lt _ (pw_pos _))
theorem mulR_succ (P d y i k : Nat) : mulR P d y i (k + 1) = mulR P d y i k + pw (i + k) * (dig P (i + k) + d * dig y k) := by
  unfold mulR
  rw [← Nat.add_assoc, mod_step, mod_step, pw_add]
  generalize P % (pw i * pw k) = a
  generalize y % pw k = b
  generalize dig y k = e
  generalize dig P (i + k) = f
  generalize pw i = p
  generalize pw k = q
  grind
theorem mulR_div (P d y i k : Nat) : mulR P d y i (k + 1) / pw (i + k) = mulC P d y i k + (dig P (i + k) + d * dig y k) := by
  rw [mulR_succ, Nat.add_mul_div_left _ _ (pw_pos _)]; rfl
theorem mulC_succ (P d y i k : Nat) : mulC P d y i (k + 1) = (mulC P d y i k + (dig P (i + k) + d * dig y k)) / 1000000000 := by
  rw [← mulR_div, Nat.div_div_eq_div_mul]; rfl
theorem mulC_le (P d y i k : Nat) : mulC P d y i k ≤ d := by
  unfold mulC mulR
  have h1 := Nat.mod_lt P (pw_pos (i + k))
  have h2 := Nat.mod_lt y (pw_pos k)
  refine Nat.le_of_lt_succ ?_
  refine Nat.div_lt_of_lt_mul ?_
  have h3 : pw i * d * (y % pw k) ≤ pw i * d * pw k := Nat.mul_le_mul_left _ (by omega)
  have h4 : pw i * d * pw k = pw (i + k) * d := by rw [pw_add]; generalize pw i = p; generalize pw k = q; grind
  rw [Nat.mul_succ]
  omega
/-- the limb that is written -/
theorem mul_dig (P d y i k : Nat) : dig (P + pw i * d * y) (i + k) = (mulC P d y i k + (dig P (i + k) + d * dig y k)) % 1000000000 := by
  rw [← mulR_div]
  have e : P + pw i * d * y = mulR P d y i (k + 1) + pw (i + (k + 1)) * (P / pw (i + (k + 1)) + d * (y / pw (k + 1))) := by
    unfold mulR
    have h1 := Nat.mod_add_div P (pw (i + (k + 1)))
    have h2 := Nat.mod_add_div y (pw (k + 1))
    have h3 := pw_add i (k + 1)
    generalize P % pw (i + (k + 1)) = a at *
    generalize P / pw (i + (k + 1)) = b at *
    generalize y % pw (k + 1) = c at *
    generalize y / pw (k + 1) = f at *
    generalize pw (i + (k + 1)) = p at *
    generalize pw (k + 1) = q at *
    generalize pw i = r at *
    rw [← h1, ← h2, h3]
    grind
  unfold dig
  rw [e, show i + (k + 1) = (i + k) + 1 by omega, pw_succ]
  generalize P / (pw (i + k) * 1000000000) + d * (y / pw (k + 1)) = z
  rw [Nat.mul_assoc, Nat.add_mul_div_left _ _ (pw_pos _)]
  omega
/-- the limbs below are not touched -/
theorem mul_dig_low (P d y i j : Nat) (h : j < i) : dig (P + pw i * d * y) j = dig P j := by
  refine dig_congr ?_
  obtain ⟨k, rfl⟩ := Nat.exists_eq_add_of_lt h
  rw [show j + k + 1 = (j + 1) + k by omega, pw_add, Nat.mul_assoc, Nat.mul_assoc, Nat.add_mul_mod_self_left]
/-- the last carry is the top limb -/
theorem mul_dig_top {P d y i n : Nat} (hP : P < pw (i + n)) (hy : y < pw n) (hd : d < 1000000000) : mulC P d y i n = dig (P + pw i * d * y) (i + n) ∧ P + pw i * d * y < pw (i + n + 1) := by
  have e : mulR P d y i n = P + pw i * d * y := by unfold mulR; rw [Nat.mod_eq_of_lt hP, Nat.mod_eq_of_lt hy]
  have h := mulC_le P d y i n
  unfold mulC at h ⊢
  rw [e] at h ⊢
  have h2 : (P + pw i * d * y) / pw (i + n) < 1000000000 := by omega
  constructor
  · unfold dig; rw [Nat.mod_eq_of_lt h2]
  · have h3 := (Nat.div_lt_iff_lt_mul (pw_pos _)).1 h2
    rw [pw_succ, Nat.mul_comm (pw (i + n))]
    exact h3
theorem mul_next (x y i : Nat) : x % pw i * y + pw i * dig x i * y = x % pw (i + 1) * y := by rw [mod_step, Nat.add_mul]
theorem mul_lt {a b x y : Nat} (hx : x < a) (hy : y < b) : x * y < a * b := Nat.mul_lt_mul'' hx hy
theorem mul_part_lt {x y i n : Nat} (hy : y < pw n) : x % pw i * y < pw (i + n) := by
  rw [pw_add]; exact Nat.mul_lt_mul'' (Nat.mod_lt _ (pw_pos i)) hy

end Go.Proofs.YtofmpfcbdemcnaaDoor
