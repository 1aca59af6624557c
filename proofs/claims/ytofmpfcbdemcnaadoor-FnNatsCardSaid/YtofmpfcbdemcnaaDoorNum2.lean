/- Plain facts on sums, products, quotients and greatest common divisors of numbers in base 1000000000, limb by limb. -/
import Derived.Test.YtofmpfcbdemcnaaDoorNum
namespace Go.Proofs.YtofmpfcbdemcnaaDoor

/-! a multiple of x and a multiple of y, limb by limb -/
/-- the multiple's part below place i -/
def comP (m n : Int) (x y i : Nat) : Int := m * ((x % pw i : Nat) : Int) + n * ((y % pw i : Nat) : Int)
/-- what is carried into place i -/
def comC (m n : Int) (x y i : Nat) : Int := comP m n x y i / ((pw i : Nat) : Int)
theorem comC_zero (m n : Int) (x y : Nat) : comC m n x y 0 = 0 := by
  unfold comC comP; rw [pw_zero, Nat.mod_one, Nat.mod_one]; simp
theorem comP_succ (m n : Int) (x y i : Nat) : comP m n x y (i + 1) = comP m n x y i + (pw i : Int) * (m * (dig x i : Int) + n * (dig y i : Int)) := by
  unfold comP
  rw [mod_step, mod_step]
  simp only [Int.natCast_add, Int.natCast_mul]
  grind
theorem comP_div (m n : Int) (x y i : Nat) : comP m n x y (i + 1) / (pw i : Int) = comC m n x y i + m * (dig x i : Int) + n * (dig y i : Int) := by
  have hp : (pw i : Int) ≠ 0 := by have := pw_pos i; omega
  rw [comP_succ, Int.add_mul_ediv_left _ _ hp, Int.add_assoc]; rfl
theorem comC_succ (m n : Int) (x y i : Nat) : comC m n x y (i + 1) = (comC m n x y i + m * (dig x i : Int) + n * (dig y i : Int)) / 1000000000 := by
  rw [← comP_div]
  unfold comC
  rw [Int.ediv_ediv_of_nonneg (by have := pw_pos i; omega), pw_succ]
  rfl
theorem comP_le (m n : Int) (x y i : Nat) : (comP m n x y i).natAbs ≤ (m.natAbs + n.natAbs) * (pw i - 1) := by
  unfold comP
  have h1 := Nat.mod_lt x (pw_pos i)
  have h2 := Nat.mod_lt y (pw_pos i)
  refine Nat.le_trans (Int.natAbs_add_le _ _) ?_
  rw [Int.natAbs_mul, Int.natAbs_mul, Nat.add_mul]
  exact Nat.add_le_add (Nat.mul_le_mul_left _ (by omega)) (Nat.mul_le_mul_left _ (by omega))
/-- the carry is small -/
theorem comC_bound (m n : Int) (x y i : Nat) (b : Nat) (h : m.natAbs + n.natAbs ≤ b) : -(b : Int) ≤ comC m n x y i ∧ comC m n x y i ≤ b := by
  have h1 := comP_le m n x y i
  have hp := pw_pos i
  have h2 : (comP m n x y i).natAbs ≤ b * pw i := Nat.le_trans h1 (Nat.mul_le_mul h (by omega))
  have h3 : ((b * pw i : Nat) : Int) = (b : Int) * (pw i : Int) := by simp
  unfold comC
  constructor
  · rw [Int.le_ediv_iff_mul_le (by omega)]
    rw [Int.neg_mul, ← h3]; omega
  · refine Int.ediv_le_of_le_mul (by omega) ?_
    rw [← h3]; omega
/-- the limb of the result -/
theorem com_dig (m n : Int) (x y i t : Nat) (ht : (t : Int) = m * (x : Int) + n * (y : Int)) : ((dig t i : Nat) : Int) = (comC m n x y i + m * (dig x i : Int) + n * (dig y i : Int)) % 1000000000 := by
  rw [← comP_div]
  have hp : 0 < pw (i + 1) := pw_pos _
  have e1 : (t : Int) = comP m n x y (i + 1) + (pw (i + 1) : Int) * (m * ((x / pw (i + 1) : Nat) : Int) + n * ((y / pw (i + 1) : Nat) : Int)) := by
    rw [ht]
    unfold comP
    have hx : (x : Int) = (x % pw (i + 1) : Nat) + (pw (i + 1) : Int) * (x / pw (i + 1) : Nat) := by
      rw [← Int.natCast_mul, ← Int.natCast_add, Nat.mod_add_div]
    have hy : (y : Int) = (y % pw (i + 1) : Nat) + (pw (i + 1) : Int) * (y / pw (i + 1) : Nat) := by
      rw [← Int.natCast_mul, ← Int.natCast_add, Nat.mod_add_div]
    generalize (x % pw (i + 1) : Nat) = xa at *
    generalize (x / pw (i + 1) : Nat) = xb at *
    generalize (y % pw (i + 1) : Nat) = ya at *
    generalize (y / pw (i + 1) : Nat) = yb at *
    generalize pw (i + 1) = p at *
    rw [hx, hy]
    grind
  have hpi : (pw i : Int) ≠ 0 := by have := pw_pos i; omega
  unfold dig
  rw [Int.natCast_emod, Int.natCast_ediv, e1, pw_succ]
  generalize comP m n x y (i + 1) = P
  generalize m * ((x / (pw i * 1000000000) : Nat) : Int) + n * ((y / (pw i * 1000000000) : Nat) : Int) = k
  rw [show P + ((pw i * 1000000000 : Nat) : Int) * k = P + (pw i : Int) * (1000000000 * k) by rw [Int.natCast_mul, Int.mul_assoc]; rfl]
  rw [Int.add_mul_ediv_left _ _ hpi]
  show (P / (pw i : Int) + 1000000000 * k) % 1000000000 = _
  omega

/-! the quotient from the top -/
theorem div_digit (x y i : Nat) (hy : 0 < y) : (x / pw (i + 1) % y * 1000000000 + dig x i) / y = dig (x / y) i ∧ (x / pw (i + 1) % y * 1000000000 + dig x i) % y = x / pw i % y := by
  have h1 := div_step x i
  have h2 := dig_lt x i
  have h3 : x / pw (i + 1) % y < y := Nat.mod_lt _ hy
  have e : x / pw i = y * (x / pw (i + 1) / y * 1000000000) + (x / pw (i + 1) % y * 1000000000 + dig x i) := by
    rw [h1]
    have := Nat.div_add_mod (x / pw (i + 1)) y
    generalize x / pw (i + 1) = a at *
    have h5 : a * 1000000000 = (y * (a / y) + a % y) * 1000000000 := by rw [this]
    rw [h5, Nat.add_mul, Nat.mul_assoc]
    omega
  have hlt : (x / pw (i + 1) % y * 1000000000 + dig x i) / y < 1000000000 := by
    refine Nat.div_lt_of_lt_mul ?_
    have h6 : (x / pw (i + 1) % y + 1) * 1000000000 ≤ y * 1000000000 := Nat.mul_le_mul_right _ (by omega)
    rw [Nat.add_mul] at h6
    omega
  constructor
  · have e2 : dig (x / y) i = x / pw i / y % 1000000000 := by
      unfold dig; rw [Nat.div_div_eq_div_mul, Nat.div_div_eq_div_mul, Nat.mul_comm]
    rw [e2, e, Nat.mul_add_div hy]
    generalize (x / pw (i + 1) % y * 1000000000 + dig x i) / y = q at hlt ⊢
    omega
  · rw [e, Nat.mul_add_mod]
theorem mod_top {x k y : Nat} (h : x < pw k) : x / pw k % y = 0 := by rw [Nat.div_eq_of_lt h, Nat.zero_mod]

end Go.Proofs.YtofmpfcbdemcnaaDoor
