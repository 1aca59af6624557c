/- Numb: Num Num2 Num3 Num4 Num5 Num6 ParsePlain Num7 Num8. -/
import Derived.Lib.ItoaNum
import Derived.Lib.ItoaLen
import Derived.Lib.AtoiAll
namespace Go.Proofs.YtlepgkkpopjgoaaGreat
set_option maxRecDepth 100000
set_option linter.unusedVariables false
set_option linter.unusedSimpArgs false
def pw : Nat → Nat
 | 0 => 1
 | i + 1 => pw i * 1000000000
theorem pw_zero : pw 0 = 1 := rfl
theorem pw_one : pw 1 = 1000000000 := rfl
theorem pw_succ (i : Nat) : pw (i + 1) = pw i * 1000000000 := rfl
theorem pw_pos : ∀ i, 0 < pw i
 | 0 => Nat.one_pos
 | i + 1 => Nat.mul_pos (pw_pos i) (by omega)
theorem pw_add (i : Nat) : ∀ j, pw (i + j) = pw i * pw j
 | 0 => by simp [pw_zero]
 | j + 1 => by rw [← Nat.add_assoc, pw_succ, pw_add i j, pw_succ, Nat.mul_assoc]
theorem pw_mono {i j : Nat} (h : i ≤ j) : pw i ≤ pw j := by
 obtain ⟨k, rfl⟩ := Nat.exists_eq_add_of_le h
 rw [pw_add]
 exact Nat.le_mul_of_pos_right _ (pw_pos k)
theorem pw_lt {i j : Nat} (h : i < j) : pw i < pw j := by
 have h1 := pw_mono (show i + 1 ≤ j from h)
 have h2 := pw_pos i
 rw [pw_succ] at h1
 omega
def dig (x i : Nat) : Nat := x / pw i % 1000000000
theorem dig_lt (x i : Nat) : dig x i < 1000000000 := Nat.mod_lt _ (by omega)
theorem div_pw_succ (x i : Nat) : x / pw (i + 1) = x / pw i / 1000000000 := by rw [pw_succ, Nat.div_div_eq_div_mul]
theorem div_step (x i : Nat) : x / pw i = x / pw (i + 1) * 1000000000 + dig x i := by
 rw [div_pw_succ]; unfold dig; omega
theorem mod_step (x i : Nat) : x % pw (i + 1) = x % pw i + pw i * dig x i := by
 rw [pw_succ, Nat.mod_mul]; rfl
theorem dig_zero_of_lt {x i : Nat} (h : x < pw i) : dig x i = 0 := by unfold dig; rw [Nat.div_eq_of_lt h]
theorem dig_of_lt {x i : Nat} (h : x < pw (i + 1)) : dig x i = x / pw i := by
 unfold dig
 rw [Nat.mod_eq_of_lt]
 exact Nat.div_lt_of_lt_mul (by rw [pw_succ] at h; exact h)
theorem dig_div (x i j : Nat) : dig (x / pw i) j = dig x (i + j) := by
 unfold dig; rw [Nat.div_div_eq_div_mul, ← pw_add]
theorem dig_mod {x i k : Nat} (h : i < k) : dig (x % pw k) i = dig x i := by
 obtain ⟨j, rfl⟩ := Nat.exists_eq_add_of_lt h
 unfold dig
 rw [show i + j + 1 = i + (j + 1) from rfl, pw_add, Nat.mod_mul_right_div_self, pw_succ, Nat.mul_comm (pw j), Nat.mod_mul_right_mod]
theorem dig_congr {x y i : Nat} (h : x % pw (i + 1) = y % pw (i + 1)) : dig x i = dig y i := by
 rw [← dig_mod (x := x) (Nat.lt_succ_self i), ← dig_mod (x := y) (Nat.lt_succ_self i), h]
def nlen (x : Nat) : Nat := if h : x = 0 then 0 else nlen (x / 1000000000) + 1
termination_by x
decreasing_by omega
theorem nlen_zero : nlen 0 = 0 := by rw [nlen]; simp
theorem nlen_pos {x : Nat} (h : 0 < x) : nlen x = nlen (x / 1000000000) + 1 := by rw [nlen, dif_neg (by omega)]
theorem nlen_le_iff : ∀ (k x : Nat), nlen x ≤ k ↔ x < pw k
 | 0, x => by
  rcases Nat.eq_zero_or_pos x with h | h
  ·subst h; rw [nlen_zero, pw_zero]; omega
  ·rw [nlen_pos h, pw_zero]; omega
 | k + 1, x => by
  rcases Nat.eq_zero_or_pos x with h | h
  ·subst h; rw [nlen_zero]; have := pw_pos (k + 1); omega
  ·have ih := nlen_le_iff k (x / 1000000000)
   rw [nlen_pos h, pw_succ]
   have h2 : x / 1000000000 < pw k ↔ x < pw k * 1000000000 := Nat.div_lt_iff_lt_mul (by omega)
   omega
theorem lt_pw_nlen (x : Nat) : x < pw (nlen x) := (nlen_le_iff _ _).1 (Nat.le_refl _)
theorem le_of_lt_nlen {x k : Nat} (h : k < nlen x) : pw k ≤ x := by
 have := (nlen_le_iff k x); omega
theorem nlen_eq {x k : Nat} (h1 : x < pw (k + 1)) (h2 : pw k ≤ x) : nlen x = k + 1 := by
 have a := nlen_le_iff (k + 1) x
 have b := nlen_le_iff k x
 omega
theorem nlen_pos_iff (x : Nat) : 0 < nlen x ↔ 0 < x := by
 rcases Nat.eq_zero_or_pos x with h | h
 ·subst h; rw [nlen_zero]
 ·rw [nlen_pos h]; omega
theorem nlen_mono {x y : Nat} (h : x ≤ y) : nlen x ≤ nlen y := by
 rw [nlen_le_iff]; exact Nat.lt_of_le_of_lt h (lt_pw_nlen y)
theorem dig_top {x : Nat} (h : 0 < x) : 0 < dig x (nlen x - 1) := by
 have h1 : 0 < nlen x := (nlen_pos_iff x).2 h
 have h2 : nlen x - 1 + 1 = nlen x := by omega
 have h3 := lt_pw_nlen x
 rw [← h2] at h3
 rw [dig_of_lt h3]
 exact Nat.div_pos (le_of_lt_nlen (by omega)) (pw_pos _)
theorem dig_top_zero {x k : Nat} (h : x < pw (k + 1)) (h0 : dig x k = 0) : x < pw k := by
 rw [dig_of_lt h] at h0
 rcases Nat.div_eq_zero_iff.1 h0 with h1 | h1
 ·have := pw_pos k; omega
 ·exact h1
theorem nlen_of_top {x k : Nat} (h : x < pw (k + 1)) (h0 : dig x k ≠ 0) : nlen x = k + 1 := by
 refine nlen_eq h ?_
 rcases Nat.lt_or_ge x (pw k) with h1 | h1
 ·exact absurd (dig_zero_of_lt h1) h0
 ·exact h1
def digs (x k : Nat) : List Nat := (List.range k).map (dig x)
theorem digs_length (x k : Nat) : (digs x k).length = k := by simp [digs]
theorem digs_get (x k i : Nat) (h : i < (digs x k).length) : (digs x k)[i]'h = dig x i := by simp [digs]
def lim (x : Nat) : List Nat := digs x (nlen x)
theorem lim_length (x : Nat) : (lim x).length = nlen x := digs_length _ _
theorem lim_get (x i : Nat) (h : i < (lim x).length) : (lim x)[i]'h = dig x i := digs_get _ _ _ _
theorem dig_past {x i : Nat} (h : nlen x ≤ i) : dig x i = 0 := dig_zero_of_lt ((nlen_le_iff _ _).1 h)
def val : List Nat → Nat
 | [] => 0
 | x :: r => x + 1000000000 * val r
def AllLimb (l : List Nat) : Prop := ∀ x ∈ l, x < 1000000000
theorem val_lt : ∀ (l : List Nat), AllLimb l → val l < pw l.length
 | [], _ => by simp [val, pw_zero]
 | x :: r, h => by
  have h1 := val_lt r (fun y hy => h y (by simp [hy]))
  have h2 := h x (by simp)
  rw [List.length_cons, pw_succ, val]
  omega
theorem dig_val : ∀ (l : List Nat) (i : Nat) (hi : i < l.length), AllLimb l → dig (val l) i = l[i]'hi
 | x :: r, 0, _, h => by
  have h2 := h x (by simp)
  unfold dig
  rw [pw_zero, val]
  simp
  omega
 | x :: r, i + 1, hi, h => by
  have h2 := h x (by simp)
  have ih := dig_val r i (by simpa using hi) (fun y hy => h y (by simp [hy]))
  rw [List.getElem_cons_succ, ← ih]
  unfold dig
  rw [show i + 1 = 1 + i by omega, pw_add, ← Nat.div_div_eq_div_mul, pw_one, val]
  congr 2
  omega
theorem digs_val (l : List Nat) (h : AllLimb l) : digs (val l) l.length = l := by
 apply List.ext_getElem (by rw [digs_length])
 intro i h1 h2
 rw [digs_get, dig_val l i h2 h]
theorem lim_val (l : List Nat) (h : AllLimb l) (ht : ∀ hne : 0 < l.length, l[l.length - 1]'(by omega) ≠ 0) : lim (val l) = l := by
 have e : nlen (val l) = l.length := by
  rcases Nat.eq_zero_or_pos l.length with h0 | h0
  ·have : l = [] := List.eq_nil_of_length_eq_zero h0
   subst this
   exact nlen_zero
  ·have h1 := val_lt l h
   obtain ⟨k, hk⟩ : ∃ k, l.length = k + 1 := ⟨l.length - 1, by omega⟩
   rw [hk] at h1 ⊢
   refine nlen_of_top h1 ?_
   have := ht h0
   rw [dig_val l k (by omega) h]
   simpa [hk] using this
 unfold lim
 rw [e]
 exact digs_val l h
theorem cmp_lt {x y i : Nat} (h : x / pw (i + 1) = y / pw (i + 1)) (hd : dig x i < dig y i) : x < y := by
 have h1 := div_step x i
 have h2 := div_step y i
 rw [h] at h1
 rcases Nat.lt_or_ge x y with h3 | h3
 ·exact h3
 ·have := Nat.div_le_div_right (c := pw i) h3
  omega
theorem cmp_up {x y i : Nat} (h : x / pw (i + 1) = y / pw (i + 1)) (hd : dig x i = dig y i) : x / pw i = y / pw i := by
 rw [div_step x i, div_step y i, h, hd]
theorem cmp_end {x y : Nat} (h : x / pw 0 = y / pw 0) : x = y := by
 rw [pw_zero, Nat.div_one, Nat.div_one] at h; exact h
theorem cmp_start {x y k : Nat} (hx : x < pw k) (hy : y < pw k) : x / pw k = y / pw k := by
 rw [Nat.div_eq_of_lt hx, Nat.div_eq_of_lt hy]
theorem lt_of_nlen {x y : Nat} (h : nlen x < nlen y) : x < y :=
 Nat.lt_of_lt_of_le (lt_pw_nlen x) (le_of_lt_nlen h)
def cmpN (x y : Nat) : Int := if x < y then -1 else if x = y then 0 else 1
theorem cmpN_lt {x y : Nat} (h : x < y) : cmpN x y = -1 := by unfold cmpN; rw [if_pos h]
theorem cmpN_eq (x : Nat) : cmpN x x = 0 := by unfold cmpN; rw [if_neg (by omega), if_pos rfl]
theorem cmpN_gt {x y : Nat} (h : y < x) : cmpN x y = 1 := by unfold cmpN; rw [if_neg (by omega), if_neg (by omega)]
theorem cmpN_neg (x y : Nat) : cmpN x y < 0 ↔ x < y := by unfold cmpN; split <;> (try split) <;> omega
end Go.Proofs.YtlepgkkpopjgoaaGreat
namespace Go.Proofs.YtlepgkkpopjgoaaGreat
set_option maxRecDepth 100000
set_option linter.unusedVariables false
set_option linter.unusedSimpArgs false
def comP (m n : Int) (x y i : Nat) : Int := m * ((x % pw i : Nat) : Int) + n * ((y % pw i : Nat) : Int)
def comC (m n : Int) (x y i : Nat) : Int := comP m n x y i / ((pw i : Nat) : Int)
theorem comC_zero (m n : Int) (x y : Nat) : comC m n x y 0 = 0 := by
 unfold comC comP; rw [pw_zero, Nat.mod_one, Nat.mod_one]; simp
theorem comP_succ (m n : Int) (x y i : Nat) : comP m n x y (i + 1) = comP m n x y i + (pw i : Int) * (m * (dig x i : Int) + n * (dig y i : Int)) := by
 unfold comP
 rw [mod_step, mod_step]
 simp only [Int.natCast_add, Int.natCast_mul]
 grind
theorem comP_div (m n : Int) (x y i : Nat) : comP m n x y (i + 1) / (pw i : Int) = comC m n x y i + m * (dig x i : Int) + n * (dig y i : Int) := by
 have hp : (pw i : Int) ≠ 0 := by have := pw_pos i; omega
 rw [comP_succ, Int.add_mul_ediv_left _ _ hp, Int.add_assoc]; rfl
theorem comC_succ (m n : Int) (x y i : Nat) : comC m n x y (i + 1) = (comC m n x y i + m * (dig x i : Int) + n * (dig y i : Int)) / 1000000000 := by
 rw [← comP_div]
 unfold comC
 rw [Int.ediv_ediv_of_nonneg (by have := pw_pos i; omega), pw_succ]
 rfl
theorem comP_le (m n : Int) (x y i : Nat) : (comP m n x y i).natAbs ≤ (m.natAbs + n.natAbs) * (pw i - 1) := by
 unfold comP
 have h1 := Nat.mod_lt x (pw_pos i)
 have h2 := Nat.mod_lt y (pw_pos i)
 refine Nat.le_trans (Int.natAbs_add_le _ _) ?_
 rw [Int.natAbs_mul, Int.natAbs_mul, Nat.add_mul]
 exact Nat.add_le_add (Nat.mul_le_mul_left _ (by omega)) (Nat.mul_le_mul_left _ (by omega))
theorem comC_bound (m n : Int) (x y i : Nat) (b : Nat) (h : m.natAbs + n.natAbs ≤ b) : -(b : Int) ≤ comC m n x y i ∧ comC m n x y i ≤ b := by
 have h1 := comP_le m n x y i
 have hp := pw_pos i
 have h2 : (comP m n x y i).natAbs ≤ b * pw i := Nat.le_trans h1 (Nat.mul_le_mul h (by omega))
 have h3 : ((b * pw i : Nat) : Int) = (b : Int) * (pw i : Int) := by simp
 unfold comC
 constructor
 ·rw [Int.le_ediv_iff_mul_le (by omega)]
  rw [Int.neg_mul, ← h3]; omega
 ·refine Int.ediv_le_of_le_mul (by omega) ?_
  rw [← h3]; omega
theorem com_dig (m n : Int) (x y i t : Nat) (ht : (t : Int) = m * (x : Int) + n * (y : Int)) : ((dig t i : Nat) : Int) = (comC m n x y i + m * (dig x i : Int) + n * (dig y i : Int)) % 1000000000 := by
 rw [← comP_div]
 have hp : 0 < pw (i + 1) := pw_pos _
 have e1 : (t : Int) = comP m n x y (i + 1) + (pw (i + 1) : Int) * (m * ((x / pw (i + 1) : Nat) : Int) + n * ((y / pw (i + 1) : Nat) : Int)) := by
  rw [ht]
  unfold comP
  have hx : (x : Int) = (x % pw (i + 1) : Nat) + (pw (i + 1) : Int) * (x / pw (i + 1) : Nat) := by
   rw [← Int.natCast_mul, ← Int.natCast_add, Nat.mod_add_div]
  have hy : (y : Int) = (y % pw (i + 1) : Nat) + (pw (i + 1) : Int) * (y / pw (i + 1) : Nat) := by
   rw [← Int.natCast_mul, ← Int.natCast_add, Nat.mod_add_div]
  generalize (x % pw (i + 1) : Nat) = xa at *
  generalize (x / pw (i + 1) : Nat) = xb at *
  generalize (y % pw (i + 1) : Nat) = ya at *
  generalize (y / pw (i + 1) : Nat) = yb at *
  generalize pw (i + 1) = p at *
  rw [hx, hy]
  grind
 have hpi : (pw i : Int) ≠ 0 := by have := pw_pos i; omega
 unfold dig
 rw [Int.natCast_emod, Int.natCast_ediv, e1, pw_succ]
 generalize comP m n x y (i + 1) = P
 generalize m * ((x / (pw i * 1000000000) : Nat) : Int) + n * ((y / (pw i * 1000000000) : Nat) : Int) = k
 rw [show P + ((pw i * 1000000000 : Nat) : Int) * k = P + (pw i : Int) * (1000000000 * k) by rw [Int.natCast_mul, Int.mul_assoc]; rfl]
 rw [Int.add_mul_ediv_left _ _ hpi]
 show (P / (pw i : Int) + 1000000000 * k) % 1000000000 = _
 omega
theorem div_digit (x y i : Nat) (hy : 0 < y) : (x / pw (i + 1) % y * 1000000000 + dig x i) / y = dig (x / y) i ∧ (x / pw (i + 1) % y * 1000000000 + dig x i) % y = x / pw i % y := by
 have h1 := div_step x i
 have h2 := dig_lt x i
 have h3 : x / pw (i + 1) % y < y := Nat.mod_lt _ hy
 have e : x / pw i = y * (x / pw (i + 1) / y * 1000000000) + (x / pw (i + 1) % y * 1000000000 + dig x i) := by
  rw [h1]
  have := Nat.div_add_mod (x / pw (i + 1)) y
  generalize x / pw (i + 1) = a at *
  have h5 : a * 1000000000 = (y * (a / y) + a % y) * 1000000000 := by rw [this]
  rw [h5, Nat.add_mul, Nat.mul_assoc]
  omega
 have hlt : (x / pw (i + 1) % y * 1000000000 + dig x i) / y < 1000000000 := by
  refine Nat.div_lt_of_lt_mul ?_
  have h6 : (x / pw (i + 1) % y + 1) * 1000000000 ≤ y * 1000000000 := Nat.mul_le_mul_right _ (by omega)
  rw [Nat.add_mul] at h6
  omega
 constructor
 ·have e2 : dig (x / y) i = x / pw i / y % 1000000000 := by
   unfold dig; rw [Nat.div_div_eq_div_mul, Nat.div_div_eq_div_mul, Nat.mul_comm]
  rw [e2, e, Nat.mul_add_div hy]
  generalize (x / pw (i + 1) % y * 1000000000 + dig x i) / y = q at hlt ⊢
  omega
 ·rw [e, Nat.mul_add_mod]
end Go.Proofs.YtlepgkkpopjgoaaGreat
namespace Go.Proofs.YtlepgkkpopjgoaaGreat
set_option maxRecDepth 100000
set_option linter.unusedVariables false
set_option linter.unusedSimpArgs false
theorem leh_core {x y q f0 f1 s0 s1 S al be : Int} (hf0 : 0 ≤ f0) (hf1 : f1 ≤ 0) (hs0 : s0 ≤ 0) (hs1 : 0 ≤ s1) (hy0 : 0 < y + s0)
  (hq : 0 ≤ q) (h1 : x + f0 < (q + 1) * (y + s0)) (h2 : q * (y + s1) ≤ x + f1) (hS : 0 < S) (ha0 : 0 ≤ al) (ha1 : al < S) (hb0 : 0 ≤ be) (hb1 : be < S) :
  0 ≤ x - q * y ∧ x - q * y < y ∧ 0 ≤ f0 - q * s0 ∧ f1 - q * s1 ≤ 0 ∧ f0 - q * s0 < y ∧ -(f1 - q * s1) < y ∧
  0 ≤ (x * S + f0 * al + f1 * be) - q * (y * S + s0 * al + s1 * be) ∧ (x * S + f0 * al + f1 * be) - q * (y * S + s0 * al + s1 * be) < y * S + s0 * al + s1 * be ∧
  0 ≤ (x - q * y) + (f0 - q * s0) ∧ 0 ≤ (x - q * y) + (f1 - q * s1) := by
 have q0 : q * s0 ≤ 0 := Int.mul_nonpos_of_nonneg_of_nonpos hq hs0
 have q1 : 0 ≤ q * s1 := Int.mul_nonneg hq hs1
 have e1 : (q + 1) * (y + s0) = q * y + q * s0 + y + s0 := by grind
 have e2 : q * (y + s1) = q * y + q * s1 := by grind
 rw [e1] at h1
 rw [e2] at h2
 generalize hqy : q * y = qy at *
 generalize hqs0 : q * s0 = qs0 at *
 generalize hqs1 : q * s1 = qs1 at *
 have E : (x * S + f0 * al + f1 * be) - q * (y * S + s0 * al + s1 * be) = (x - qy) * S + (f0 - qs0) * al + (f1 - qs1) * be := by
  rw [← hqy, ← hqs0, ← hqs1]; grind
 have l1 : 0 ≤ (f0 - qs0) * al := Int.mul_nonneg (by omega) ha0
 have l2 : (f1 - qs1) * S ≤ (f1 - qs1) * be := Int.mul_le_mul_of_nonpos_left (by omega) (by omega)
 have l3 : 0 ≤ ((x - qy) + (f1 - qs1)) * S := Int.mul_nonneg (by omega) (by omega)
 have e3 : ((x - qy) + (f1 - qs1)) * S = (x - qy) * S + (f1 - qs1) * S := by grind
 have F : y * S + s0 * al + s1 * be - ((x - qy) * S + (f0 - qs0) * al + (f1 - qs1) * be) = (y - x + qy) * S + (s0 - f0 + qs0) * al + (s1 - f1 + qs1) * be := by grind
 have l4 : 0 ≤ (s1 - f1 + qs1) * be := Int.mul_nonneg (by omega) hb0
 have l5 : (s0 - f0 + qs0) * S ≤ (s0 - f0 + qs0) * al := Int.mul_le_mul_of_nonpos_left (by omega) (by omega)
 have l6 : 1 * S ≤ ((y - x + qy) + (s0 - f0 + qs0)) * S := Int.mul_le_mul_of_nonneg_right (by omega) (by omega)
 have e4 : ((y - x + qy) + (s0 - f0 + qs0)) * S = (y - x + qy) * S + (s0 - f0 + qs0) * S := by grind
 rw [E]
 refine ⟨by omega, by omega, by omega, by omega, by omega, by omega, by omega, by omega, by omega, by omega⟩
theorem sq_small {s x p : Int} (h0 : 0 ≤ s) (h1 : s < x) (h2 : s * x ≤ p) (hp : p < 1000000000000000000) : s ≤ 999999999 := by
 rcases Int.lt_or_le s 1000000000 with h | h
 ·omega
 ·have a : 1000000000 * 1000000000 ≤ s * x := Int.mul_le_mul h (by omega) (by omega) h0
  omega
structure Leh (a b S x0 y0 : Nat) (x y f0 f1 s0 s1 : Int) (A B : Nat) : Prop where
  hA : (A : Int) = f0 * a + f1 * b
  hB : (B : Int) = s0 * a + s1 * b
  hx : x = f0 * x0 + f1 * y0
  hy : y = s0 * x0 + s1 * y0
  gcd : Nat.gcd A B = Nat.gcd a b
  BA : B ≤ A
  Aa : A ≤ a
  Bb : B ≤ b
  less : s0 = 0 ∨ B < b
  x1 : 0 ≤ x
  x2 : x < 1000000000000000000
  y1 : 0 ≤ y
  y2 : y ≤ x
  xf0 : 0 ≤ x + f0
  xf1 : 0 ≤ x + f1
  f0b : -999999999 ≤ f0 ∧ f0 ≤ 999999999
  f1b : -999999999 ≤ f1 ∧ f1 ≤ 999999999
  s0b : -999999999 ≤ s0 ∧ s0 ≤ 999999999
  s1b : -999999999 ≤ s1 ∧ s1 ≤ 999999999
  sgn : (0 ≤ f0 ∧ f1 ≤ 0 ∧ s0 ≤ 0 ∧ 0 ≤ s1 ∧ (x0 : Int) = s1 * x - f1 * y ∧ (y0 : Int) = -s0 * x + f0 * y) ∨
        (f0 ≤ 0 ∧ 0 ≤ f1 ∧ 0 ≤ s0 ∧ s1 ≤ 0 ∧ (x0 : Int) = -s1 * x + f1 * y ∧ (y0 : Int) = s0 * x - f0 * y)
theorem Leh.start {a b S x0 y0 : Nat} (hab : b ≤ a) (hxy : y0 ≤ x0) (hx : x0 < 1000000000000000000) : Leh a b S x0 y0 x0 y0 1 0 0 1 a b :=
 ⟨by omega, by omega, by omega, by omega, rfl, hab, Nat.le_refl _, Nat.le_refl _, .inl rfl, by omega, by omega, by omega, by omega, by omega, by omega, by omega, by omega, by omega, by omega,
  .inl ⟨by omega, by omega, by omega, by omega, by omega, by omega⟩⟩
theorem cast_part {a S x0 al : Nat} (h : a = x0 * S + al) : (a : Int) = (x0 : Int) * (S : Int) + (al : Int) := by
 rw [h]; simp
theorem Leh.step {a b S x0 y0 : Nat} {x y f0 f1 s0 s1 : Int} {A B : Nat} (h : Leh a b S x0 y0 x y f0 f1 s0 s1 A B) {al be : Nat} (hS : 0 < S)
  (ha : a = x0 * S + al) (hal : al < S) (hb : b = y0 * S + be) (hbe : be < S) (hx0 : x0 < 1000000000000000000) (_ : y0 < 1000000000000000000)
  (g0 : 0 < y + s0) (g1 : 0 < y + s1) {q : Int} (q0 : q = (x + f0) / (y + s0)) (q1 : q = (x + f1) / (y + s1)) :
  Leh a b S x0 y0 y (x - q * y) s0 s1 (f0 - q * s0) (f1 - q * s1) B (A % B) ∧ x - q * y < y ∧ 0 ≤ q ∧ 0 ≤ q * y ∧ q * y ≤ x ∧ (-1999999998 ≤ q * s0 ∧ q * s0 ≤ 1999999998) ∧ (-1999999998 ≤ q * s1 ∧ q * s1 ≤ 1999999998) := by
 have hq : 0 ≤ q := by rw [q0]; exact Int.ediv_nonneg h.xf0 (by omega)
 have a0 : q * (y + s0) ≤ x + f0 := by rw [q0]; exact Int.ediv_mul_le _ (by omega)
 have a1 : x + f0 < (q + 1) * (y + s0) := by rw [q0]; exact Int.lt_ediv_add_one_mul_self _ g0
 have b0 : q * (y + s1) ≤ x + f1 := by rw [q1]; exact Int.ediv_mul_le _ (by omega)
 have b1 : x + f1 < (q + 1) * (y + s1) := by rw [q1]; exact Int.lt_ediv_add_one_mul_self _ g1
 have HA := h.hA
 have HB := h.hB
 rw [cast_part ha, cast_part hb] at HA HB
 have EA : (A : Int) = x * S + f0 * al + f1 * be := by rw [HA, h.hx]; grind
 have EB : (B : Int) = y * S + s0 * al + s1 * be := by rw [HB, h.hy]; grind
 have hA := h.hA
 have hB := h.hB
 have hx := h.hx
 have hy := h.hy
 have hqy : 0 ≤ q * y := Int.mul_nonneg hq h.y1
 have hf0b := h.f0b
 have hf1b := h.f1b
 have hs0b := h.s0b
 have hs1b := h.s1b
 have hAa := h.Aa
 have hBb := h.Bb
 have hBA := h.BA
 have key : ∀ R : Int, R = (A : Int) - q * (B : Int) → 0 ≤ R → R < (B : Int) → ((A % B : Nat) : Int) = R ∧ A % B < B := by
  intro R hR h0 h1
  have hB : 0 < B := by omega
  refine ⟨?_, Nat.mod_lt _ hB⟩
  obtain ⟨r, rfl⟩ := Int.eq_ofNat_of_zero_le h0
  obtain ⟨k, rfl⟩ := Int.eq_ofNat_of_zero_le hq
  have : A = k * B + r := by
   have : (A : Int) = (k : Int) * (B : Int) + (r : Int) := by omega
   rw [← Int.natCast_mul, ← Int.natCast_add] at this
   exact Int.ofNat.inj this
  rw [this, Nat.mul_comm, Nat.mul_add_mod, Nat.mod_eq_of_lt (by omega)]
 have gg : Nat.gcd B (A % B) = Nat.gcd a b := by
  rw [← h.gcd, Nat.gcd_comm A B, Nat.gcd_rec B A, Nat.gcd_comm]
 rcases h.sgn with ⟨c1, c2, c3, c4, c5, c6⟩ | ⟨c1, c2, c3, c4, c5, c6⟩
 ·obtain ⟨r1, r2, r3, r4, r5, r6, r7, r8, r9, r10⟩ := leh_core (S := S) (al := al) (be := be) c1 c2 c3 c4 g0 hq a1 b0 (by omega) (by omega) (by omega) (by omega) (by omega)
  rw [← EA, ← EB] at r7 r8
  obtain ⟨k1, k2⟩ := key _ rfl r7 r8
  have t5 : (x0 : Int) = -(f1 - q * s1) * y + s1 * (x - q * y) := by rw [c5]; grind
  have t6 : (y0 : Int) = (f0 - q * s0) * y - s0 * (x - q * y) := by rw [c6]; grind
  have u1 : 0 ≤ s1 * (x - q * y) := Int.mul_nonneg c4 r1
  have u2 : s0 * (x - q * y) ≤ 0 := Int.mul_nonpos_of_nonpos_of_nonneg c3 r1
  have v1 := sq_small (s := -(f1 - q * s1)) (x := y) (p := x0) (by omega) r6 (by omega) (by omega)
  have v0 := sq_small (s := f0 - q * s0) (x := y) (p := y0) r3 r5 (by omega) (by omega)
  refine ⟨⟨hB, ?_, hy, ?_, gg, Nat.le_of_lt k2, by omega, by omega, .inr (by omega), h.y1, by have := h.x2; have := h.y2; omega, r1, by omega, by omega, by omega, hs0b, hs1b, by omega, by omega, .inr ⟨c3, c4, r3, r4, t5, t6⟩⟩, r2, hq, hqy, by omega, by omega, by omega⟩
  ·rw [k1, hA, hB]; grind
  ·rw [hx, hy]; grind
 ·obtain ⟨r1, r2, r3, r4, r5, r6, r7, r8, r9, r10⟩ := leh_core (S := S) (al := be) (be := al) c2 c1 c4 c3 g1 hq b1 a0 (by omega) (by omega) (by omega) (by omega) (by omega)
  have EA' : (A : Int) = x * S + f1 * be + f0 * al := by rw [EA]; omega
  have EB' : (B : Int) = y * S + s1 * be + s0 * al := by rw [EB]; omega
  rw [← EA', ← EB'] at r7 r8
  obtain ⟨k1, k2⟩ := key _ rfl r7 r8
  have t5 : (x0 : Int) = (f1 - q * s1) * y - s1 * (x - q * y) := by rw [c5]; grind
  have t6 : (y0 : Int) = -(f0 - q * s0) * y + s0 * (x - q * y) := by rw [c6]; grind
  have u1 : s1 * (x - q * y) ≤ 0 := Int.mul_nonpos_of_nonpos_of_nonneg c4 r1
  have u2 : 0 ≤ s0 * (x - q * y) := Int.mul_nonneg c3 r1
  have v1 := sq_small (s := f1 - q * s1) (x := y) (p := x0) r3 r5 (by omega) (by omega)
  have v0 := sq_small (s := -(f0 - q * s0)) (x := y) (p := y0) (by omega) r6 (by omega) (by omega)
  refine ⟨⟨hB, ?_, hy, ?_, gg, Nat.le_of_lt k2, by omega, by omega, .inr (by omega), h.y1, by have := h.x2; have := h.y2; omega, r1, by omega, by omega, by omega, hs0b, hs1b, by omega, by omega, .inl ⟨c3, c4, r4, r3, by rw [t5], by rw [t6]⟩⟩, r2, hq, hqy, by omega, by omega, by omega⟩
  ·rw [k1, hA, hB]; grind
  ·rw [hx, hy]; grind
end Go.Proofs.YtlepgkkpopjgoaaGreat
namespace Go.Proofs.YtlepgkkpopjgoaaGreat
set_option maxRecDepth 100000
set_option linter.unusedVariables false
set_option linter.unusedSimpArgs false
theorem comC_nonneg {x y i : Nat} : 0 ≤ comC 1 1 x y i := by
 unfold comC comP
 exact Int.ediv_nonneg (by omega) (by omega)
theorem comC_sum (x y i : Nat) : comC 1 1 x y i = (((x % pw i + y % pw i) / pw i : Nat) : Int) := by
 unfold comC comP
 rw [Int.one_mul, Int.one_mul, ← Int.natCast_add, ← Int.natCast_ediv]
theorem comC_done {x y i : Nat} (hx : nlen x ≤ i) (hy : nlen y ≤ i) (h : comC 1 1 x y i = 0) : nlen (x + y) ≤ i := by
 rw [comC_sum, Nat.mod_eq_of_lt ((nlen_le_iff _ _).1 hx), Nat.mod_eq_of_lt ((nlen_le_iff _ _).1 hy)] at h
 rw [nlen_le_iff]
 have h1 : (x + y) / pw i = 0 := by omega
 rcases Nat.div_eq_zero_iff.1 h1 with h2 | h2
 ·have := pw_pos i; omega
 ·exact h2
theorem comC_last {x y i : Nat} (hx : nlen x < i) (hy : nlen y < i) : comC 1 1 x y i = 0 := by
 obtain ⟨k, rfl⟩ : ∃ k, i = k + 1 := ⟨i - 1, by omega⟩
 have h1 := (nlen_le_iff k x).1 (by omega)
 have h2 := (nlen_le_iff k y).1 (by omega)
 rw [comC_sum]
 have h3 := Nat.mod_le x (pw (k + 1))
 have h4 := Nat.mod_le y (pw (k + 1))
 rw [Nat.div_eq_of_lt (by rw [pw_succ] at *; omega)]
 rfl
theorem comC_less (x y i : Nat) : -1 ≤ comC 1 (-1) x y i ∧ comC 1 (-1) x y i ≤ 0 := by
 unfold comC comP
 have hp := pw_pos i
 have h1 := Nat.mod_lt x hp
 have h2 := Nat.mod_lt y hp
 generalize x % pw i = a at *
 generalize y % pw i = b at *
 generalize pw i = p at *
 constructor
 ·rw [Int.le_ediv_iff_mul_le (by omega)]; omega
 ·have h3 : (1 * (a : Int) + -1 * (b : Int)) / (p : Int) < 1 := Int.ediv_lt_of_lt_mul (by omega) (by omega)
  omega
def mulR (P d y i k : Nat) : Nat := P % pw (i + k) + pw i * d * (y % pw k)
def mulC (P d y i k : Nat) : Nat := mulR P d y i k / pw (i + k)
theorem mulC_zero (P d y i : Nat) : mulC P d y i 0 = 0 := by
 unfold mulC mulR
 rw [pw_zero, Nat.mod_one, Nat.mul_zero, Nat.add_zero, Nat.add_zero]
 exact Nat.div_eq_of_lt (Nat.mod_lt _ (pw_pos _))
theorem mulR_succ (P d y i k : Nat) : mulR P d y i (k + 1) = mulR P d y i k + pw (i + k) * (dig P (i + k) + d * dig y k) := by
 unfold mulR
 rw [← Nat.add_assoc, mod_step, mod_step, pw_add]
 generalize P % (pw i * pw k) = a
 generalize y % pw k = b
 generalize dig y k = e
 generalize dig P (i + k) = f
 generalize pw i = p
 generalize pw k = q
 grind
theorem mulR_div (P d y i k : Nat) : mulR P d y i (k + 1) / pw (i + k) = mulC P d y i k + (dig P (i + k) + d * dig y k) := by
 rw [mulR_succ, Nat.add_mul_div_left _ _ (pw_pos _)]; rfl
theorem mulC_succ (P d y i k : Nat) : mulC P d y i (k + 1) = (mulC P d y i k + (dig P (i + k) + d * dig y k)) / 1000000000 := by
 rw [← mulR_div, Nat.div_div_eq_div_mul]; rfl
theorem mulC_le (P d y i k : Nat) : mulC P d y i k ≤ d := by
 unfold mulC mulR
 have h1 := Nat.mod_lt P (pw_pos (i + k))
 have h2 := Nat.mod_lt y (pw_pos k)
 refine Nat.le_of_lt_succ ?_
 refine Nat.div_lt_of_lt_mul ?_
 have h3 : pw i * d * (y % pw k) ≤ pw i * d * pw k := Nat.mul_le_mul_left _ (by omega)
 have h4 : pw i * d * pw k = pw (i + k) * d := by rw [pw_add]; generalize pw i = p; generalize pw k = q; grind
 rw [Nat.mul_succ]
 omega
theorem mul_dig (P d y i k : Nat) : dig (P + pw i * d * y) (i + k) = (mulC P d y i k + (dig P (i + k) + d * dig y k)) % 1000000000 := by
 rw [← mulR_div]
 have e : P + pw i * d * y = mulR P d y i (k + 1) + pw (i + (k + 1)) * (P / pw (i + (k + 1)) + d * (y / pw (k + 1))) := by
  unfold mulR
  have h1 := Nat.mod_add_div P (pw (i + (k + 1)))
  have h2 := Nat.mod_add_div y (pw (k + 1))
  have h3 := pw_add i (k + 1)
  generalize P % pw (i + (k + 1)) = a at *
  generalize P / pw (i + (k + 1)) = b at *
  generalize y % pw (k + 1) = c at *
  generalize y / pw (k + 1) = f at *
  generalize pw (i + (k + 1)) = p at *
  generalize pw (k + 1) = q at *
  generalize pw i = r at *
  rw [← h1, ← h2, h3]
  grind
 unfold dig
 rw [e, show i + (k + 1) = (i + k) + 1 by omega, pw_succ]
 generalize P / (pw (i + k) * 1000000000) + d * (y / pw (k + 1)) = z
 rw [Nat.mul_assoc, Nat.add_mul_div_left _ _ (pw_pos _)]
 omega
theorem mul_dig_low (P d y i j : Nat) (h : j < i) : dig (P + pw i * d * y) j = dig P j := by
 refine dig_congr ?_
 obtain ⟨k, rfl⟩ := Nat.exists_eq_add_of_lt h
 rw [show j + k + 1 = (j + 1) + k by omega, pw_add, Nat.mul_assoc, Nat.mul_assoc, Nat.add_mul_mod_self_left]
theorem mul_dig_top {P d y i n : Nat} (hP : P < pw (i + n)) (hy : y < pw n) (hd : d < 1000000000) : mulC P d y i n = dig (P + pw i * d * y) (i + n) ∧ P + pw i * d * y < pw (i + n + 1) := by
 have e : mulR P d y i n = P + pw i * d * y := by unfold mulR; rw [Nat.mod_eq_of_lt hP, Nat.mod_eq_of_lt hy]
 have h := mulC_le P d y i n
 unfold mulC at h ⊢
 rw [e] at h ⊢
 have h2 : (P + pw i * d * y) / pw (i + n) < 1000000000 := by omega
 constructor
 ·unfold dig; rw [Nat.mod_eq_of_lt h2]
 ·have h3 := (Nat.div_lt_iff_lt_mul (pw_pos _)).1 h2
  rw [pw_succ, Nat.mul_comm (pw (i + n))]
  exact h3
theorem mul_next (x y i : Nat) : x % pw i * y + pw i * dig x i * y = x % pw (i + 1) * y := by rw [mod_step, Nat.add_mul]
theorem mul_part_lt {x y i n : Nat} (hy : y < pw n) : x % pw i * y < pw (i + n) := by
 rw [pw_add]; exact Nat.mul_lt_mul'' (Nat.mod_lt _ (pw_pos i)) hy
end Go.Proofs.YtlepgkkpopjgoaaGreat
namespace Go.Proofs.YtlepgkkpopjgoaaGreat
set_option maxRecDepth 100000
set_option linter.unusedVariables false
set_option linter.unusedSimpArgs false
theorem scale_fact {t s : Nat} (h1 : 1 ≤ t) (h2 : t < 1000000000) (hs : s = 1000000000 / (t + 1)) : 1 ≤ s ∧ s ≤ 500000000 ∧ 500000000 ≤ t * s ∧ (t + 1) * s ≤ 1000000000 := by
 have a : (t + 1) * s ≤ 1000000000 := by rw [hs]; exact Nat.mul_div_le _ _
 have b : 1000000000 < (t + 1) * s + (t + 1) := by
  have := Nat.lt_mul_div_succ 1000000000 (show 0 < t + 1 by omega)
  rw [← hs, Nat.mul_succ] at this
  exact this
 have c : 1 ≤ s := by rw [hs]; exact (Nat.le_div_iff_mul_le (by omega)).2 (by omega)
 have d : s ≤ 500000000 := by
  have : 2 * s ≤ (t + 1) * s := Nat.mul_le_mul_right _ (by omega)
  omega
 refine ⟨c, d, ?_, a⟩
 rcases Nat.lt_or_ge t 500000000 with ht | ht
 ·-- 2 t s (t+1) ≥ 2 t (b - t) ≥ (b - 1) (t + 1)
  rcases Nat.lt_or_ge (t * s) 500000000 with h | h
  ·exfalso
   have e1 : (t + 1) * s = t * s + s := by rw [Nat.add_mul, Nat.one_mul]
   -- s ≥ b - t - t s > b - t - h, so s > h - t
   have e2 : 500000000 - t < s := by omega
   have e3 : t * (500000000 - t + 1) ≤ t * s := Nat.mul_le_mul_left _ (by omega)
   have e4 : t * (500000000 - t + 1) < 500000000 := by omega
   obtain ⟨u, hu⟩ : ∃ u, t = u + 1 := ⟨t - 1, by omega⟩
   subst hu
   -- (u + 1) (h - u) < h, so u (h - u - 1) < 0
   have e5 : (u + 1) * (500000000 - (u + 1) + 1) = u * (500000000 - u) + (500000000 - u) := by
    rw [show 500000000 - (u + 1) + 1 = 500000000 - u by omega, Nat.add_mul, Nat.one_mul]
   have e6 : u * (500000000 - u) < u := by omega
   have e7 : u * 1 ≤ u * (500000000 - u) := Nat.mul_le_mul_left _ (by omega)
   omega
  ·exact h
 ·have : t * 1 ≤ t * s := Nat.mul_le_mul_left _ c
  omega
theorem top_bounds {y n : Nat} (h : nlen y = n + 1) : dig y n * pw n ≤ y ∧ y < (dig y n + 1) * pw n ∧ 1 ≤ dig y n := by
 have h1 : y < pw (n + 1) := by rw [← h]; exact lt_pw_nlen y
 have h2 : pw n ≤ y := le_of_lt_nlen (by omega)
 rw [dig_of_lt h1]
 refine ⟨Nat.div_mul_le_self _ _, ?_, ?_⟩
 ·rw [Nat.mul_comm]
  have := Nat.lt_mul_div_succ y (pw_pos n)
  exact this
 ·exact (Nat.le_div_iff_mul_le (pw_pos n)).2 (by omega)
theorem scaled {y n s : Nat} (h : nlen y = n + 1) (hs : s = 1000000000 / (dig y n + 1)) : nlen (y * s) = n + 1 ∧ 500000000 ≤ dig (y * s) n ∧ 1 ≤ s ∧ s ≤ 500000000 := by
 obtain ⟨b1, b2, b3⟩ := top_bounds h
 obtain ⟨s1, s2, s3, s4⟩ := scale_fact b3 (dig_lt y n) hs
 have u : y * s < pw (n + 1) := by
  have a : y * s < (dig y n + 1) * pw n * s := Nat.mul_lt_mul_of_lt_of_le b2 (Nat.le_refl s) (by omega)
  have b : (dig y n + 1) * pw n * s = (dig y n + 1) * s * pw n := by rw [Nat.mul_assoc, Nat.mul_comm (pw n), ← Nat.mul_assoc]
  have c : (dig y n + 1) * s * pw n ≤ 1000000000 * pw n := Nat.mul_le_mul_right _ s4
  rw [pw_succ]; omega
 have l : 500000000 * pw n ≤ y * s := by
  have a : dig y n * pw n * s ≤ y * s := Nat.mul_le_mul_right _ b1
  have b : dig y n * pw n * s = dig y n * s * pw n := by rw [Nat.mul_assoc, Nat.mul_comm (pw n), ← Nat.mul_assoc]
  have c : 500000000 * pw n ≤ dig y n * s * pw n := Nat.mul_le_mul_right _ s3
  omega
 have hd : 500000000 ≤ dig (y * s) n := by
  rw [dig_of_lt u]
  exact (Nat.le_div_iff_mul_le (pw_pos n)).2 l
 exact ⟨nlen_of_top u (by omega), hd, s1, s2⟩
def putN (R o len P : Nat) : Nat := R / pw (o + len) * pw (o + len) + P * pw o + R % pw o
theorem putN_mod_low (R o len P : Nat) : putN R o len P % pw o = R % pw o := by
 unfold putN
 have e : R / pw (o + len) * pw (o + len) + P * pw o + R % pw o = R % pw o + pw o * (R / pw (o + len) * pw len + P) := by
  rw [pw_add]; generalize R / (pw o * pw len) = a; generalize pw o = p; generalize pw len = q; grind
 rw [e, Nat.add_mul_mod_self_left, Nat.mod_mod]
theorem putN_div (R o len P : Nat) : putN R o len P / pw o = R / pw (o + len) * pw len + P := by
 unfold putN
 have e : R / pw (o + len) * pw (o + len) + P * pw o + R % pw o = R % pw o + pw o * (R / pw (o + len) * pw len + P) := by
  rw [pw_add]; generalize R / (pw o * pw len) = a; generalize pw o = p; generalize pw len = q; grind
 rw [e, Nat.add_mul_div_left _ _ (pw_pos o), Nat.div_eq_of_lt (Nat.mod_lt _ (pw_pos o)), Nat.zero_add]
theorem putN_low {R o len P j : Nat} (h : j < o) : dig (putN R o len P) j = dig R j := by
 rw [← dig_mod h, putN_mod_low, dig_mod h]
theorem putN_mid {R o len P j : Nat} (h : j < len) : dig (putN R o len P) (o + j) = dig P j := by
 rw [← dig_div, putN_div, ← dig_mod h, Nat.mul_comm, Nat.mul_add_mod, dig_mod h]
theorem putN_high {R o len P j : Nat} (hP : P < pw len) : dig (putN R o len P) (o + len + j) = dig R (o + len + j) := by
 rw [← dig_div, ← dig_div]
 congr 1
 rw [pw_add, ← Nat.div_div_eq_div_mul, putN_div, Nat.mul_comm, Nat.mul_add_div (pw_pos len), Nat.div_eq_of_lt hP, Nat.add_zero, pw_add]
theorem com_digM (m n : Int) (x y i len t : Nat) (hi : i < len) (ht : (t : Int) = (m * (x : Int) + n * (y : Int)) % (pw len : Int)) : ((dig t i : Nat) : Int) = (comC m n x y i + m * (dig x i : Int) + n * (dig y i : Int)) % 1000000000 := by
 rw [← comP_div]
 obtain ⟨z, hz⟩ : ∃ z : Int, (t : Int) = m * (x : Int) + n * (y : Int) + (pw len : Int) * z := ⟨-((m * (x : Int) + n * (y : Int)) / (pw len : Int)), by rw [ht, Int.emod_def, Int.mul_neg]; omega⟩
 obtain ⟨k, hk⟩ := Nat.exists_eq_add_of_lt hi
 have hl : pw len = pw (i + 1) * pw k := by rw [hk, ← pw_add]; congr 1; omega
 have e1 : (t : Int) = comP m n x y (i + 1) + (pw (i + 1) : Int) * (m * ((x / pw (i + 1) : Nat) : Int) + n * ((y / pw (i + 1) : Nat) : Int) + (pw k : Int) * z) := by
  rw [hz, hl]
  unfold comP
  have hx : (x : Int) = (x % pw (i + 1) : Nat) + (pw (i + 1) : Int) * (x / pw (i + 1) : Nat) := by
   rw [← Int.natCast_mul, ← Int.natCast_add, Nat.mod_add_div]
  have hy : (y : Int) = (y % pw (i + 1) : Nat) + (pw (i + 1) : Int) * (y / pw (i + 1) : Nat) := by
   rw [← Int.natCast_mul, ← Int.natCast_add, Nat.mod_add_div]
  rw [Int.natCast_mul]
  generalize (x % pw (i + 1) : Nat) = xa at *
  generalize (x / pw (i + 1) : Nat) = xb at *
  generalize (y % pw (i + 1) : Nat) = ya at *
  generalize (y / pw (i + 1) : Nat) = yb at *
  generalize pw (i + 1) = p at *
  rw [hx, hy]
  grind
 have hpi : (pw i : Int) ≠ 0 := by have := pw_pos i; omega
 unfold dig
 rw [Int.natCast_emod, Int.natCast_ediv, e1, pw_succ]
 generalize comP m n x y (i + 1) = P
 generalize m * ((x / (pw i * 1000000000) : Nat) : Int) + n * ((y / (pw i * 1000000000) : Nat) : Int) + (pw k : Int) * z = k'
 rw [show P + ((pw i * 1000000000 : Nat) : Int) * k' = P + (pw i : Int) * (1000000000 * k') by rw [Int.natCast_mul, Int.mul_assoc]; rfl]
 rw [Int.add_mul_ediv_left _ _ hpi]
 show (P / (pw i : Int) + 1000000000 * k') % 1000000000 = _
 omega
theorem comC_full {m n : Int} {x y len : Nat} (hx : x < pw len) (hy : y < pw len) : comC m n x y len = (m * (x : Int) + n * (y : Int)) / (pw len : Int) := by
 unfold comC comP; rw [Nat.mod_eq_of_lt hx, Nat.mod_eq_of_lt hy]
theorem neg_iff {a p : Int} (hp : 0 < p) : a / p < 0 ↔ a < 0 := by
 constructor
 ·intro h
  rcases Int.lt_or_le a 0 with h1 | h1
  ·exact h1
  ·have := Int.ediv_nonneg h1 (Int.le_of_lt hp); omega
 ·intro h
  exact Int.ediv_neg_of_neg_of_pos h hp
theorem guess_test {top p0 v1 v2 q r : Nat} (hv : 0 < v1) (hr : top = q * v1 + r) : (r * 1000000000 + p0 < q * v2) ↔ (top * 1000000000 + p0) / (v1 * 1000000000 + v2) < q := by
 have hV : 0 < v1 * 1000000000 + v2 := by omega
 rw [Nat.div_lt_iff_lt_mul hV]
 have e : q * (v1 * 1000000000 + v2) = q * v1 * 1000000000 + q * v2 := by rw [Nat.mul_add, Nat.mul_assoc]
 rw [e, hr, Nat.add_mul]
 omega
theorem guess_first {top p0 v1 v2 : Nat} (hv : 0 < v1) (hp : p0 < 1000000000) : (top * 1000000000 + p0) / (v1 * 1000000000 + v2) ≤ top / v1 := by
 rw [Nat.le_div_iff_mul_le hv]
 have h := Nat.div_mul_le_self (top * 1000000000 + p0) (v1 * 1000000000 + v2)
 generalize (top * 1000000000 + p0) / (v1 * 1000000000 + v2) = g at *
 have e : g * (v1 * 1000000000 + v2) = g * v1 * 1000000000 + g * v2 := by rw [Nat.mul_add, Nat.mul_assoc]
 rw [e] at h
 omega
theorem guess_small {top v1 : Nat} (ht : top < 1000000000000000000) (hv : 500000000 ≤ v1) : top / v1 < 2000000000 := by
 rw [Nat.div_lt_iff_lt_mul (by omega)]
 have : 2000000000 * 500000000 ≤ 2000000000 * v1 := Nat.mul_le_mul_left _ hv
 omega
def knQ (v n R i : Nat) : Nat :=
 let P := R / pw i % pw (n + 3)
 let g := P / pw n / (v / pw n)
 if P < g * v then g - 1 else g
def knP (v n R i : Nat) : Nat :=
 let P := R / pw i % pw (n + 3)
 let g := P / pw n / (v / pw n)
 if P < g * v then ((((P : Int) - (g : Int) * (v : Int)) % (pw (n + 3) : Int)).toNat + v) % pw (n + 3) else P - g * v
def knR (v n R i : Nat) : Nat := putN R i (n + 3) (knP v n R i)
theorem kn_guess {P v n : Nat} (hv : nlen v = n + 2) (hP : P < v * 1000000000) : P / v ≤ P / pw n / (v / pw n) ∧ P / pw n / (v / pw n) ≤ P / v + 1 := by
 have hvl : pw (n + 1) ≤ v := le_of_lt_nlen (by omega)
 have hp := pw_pos n
 have h3 : 0 < v := by have := pw_pos (n + 1); omega
 have h1 : 1000000000 ≤ v / pw n := (Nat.le_div_iff_mul_le hp).2 (by rw [pw_succ] at hvl; rw [Nat.mul_comm]; exact hvl)
 have a1 := Nat.div_mul_le_self v (pw n)
 have a2 : v < (v / pw n + 1) * pw n := by
  have := Nat.lt_mul_div_succ v hp
  rw [Nat.mul_comm]; exact this
 obtain ⟨V, hV⟩ : ∃ V, v / pw n = V := ⟨_, rfl⟩
 rw [hV] at h1 a1 a2 ⊢
 have hU := Nat.div_mul_le_self P (pw n)
 obtain ⟨U, hUe⟩ : ∃ U, P / pw n = U := ⟨_, rfl⟩
 have hU2 : U < (V + 1) * 1000000000 := by
  rw [← hUe, Nat.div_lt_iff_lt_mul hp]
  have : v * 1000000000 < (V + 1) * pw n * 1000000000 := Nat.mul_lt_mul_of_pos_right a2 (by omega)
  have e : (V + 1) * pw n * 1000000000 = (V + 1) * 1000000000 * pw n := by rw [Nat.mul_assoc, Nat.mul_comm (pw n), ← Nat.mul_assoc]
  omega
 rw [hUe] at hU ⊢
 have hg := Nat.div_mul_le_self U V
 have hV0 : 0 < V := by omega
 have hgl : U / V ≤ 1000000000 := by
  refine Nat.le_of_lt_succ ((Nat.div_lt_iff_lt_mul hV0).2 ?_)
  rw [Nat.succ_mul]
  rw [Nat.add_mul] at hU2
  omega
 constructor
 ·rw [Nat.le_div_iff_mul_le hV0, ← hUe, Nat.le_div_iff_mul_le hp]
  have b1 := Nat.div_mul_le_self P v
  have b2 : P / v * (V * pw n) ≤ P / v * v := Nat.mul_le_mul_left _ a1
  rw [Nat.mul_assoc]; omega
 ·obtain ⟨g, hge⟩ : ∃ g, U / V = g := ⟨_, rfl⟩
  rw [hge] at hg hgl ⊢
  cases g with
  | zero => exact Nat.zero_le _
  | succ g =>
   refine Nat.succ_le_succ ((Nat.le_div_iff_mul_le h3).2 ?_)
   have c1 : g * v ≤ g * ((V + 1) * pw n) := Nat.mul_le_mul_left _ (by omega)
   have c2 : (g + 1) * V * pw n ≤ U * pw n := Nat.mul_le_mul_right _ hg
   have c3 : g * ((V + 1) * pw n) ≤ (g + 1) * V * pw n := by
    rw [← Nat.mul_assoc]
    refine Nat.mul_le_mul_right _ ?_
    rw [Nat.mul_succ, Nat.succ_mul]; omega
   omega
theorem kn_right {v n R i : Nat} (hv : nlen v = n + 2) (hR : R < v * pw (i + 1)) : knQ v n R i = R / pw i / v ∧ knR v n R i = R % (v * pw i) := by
 have hvu : v < pw (n + 2) := by rw [← hv]; exact lt_pw_nlen v
 have h3 : 0 < v := by
  have h1 : pw (n + 1) ≤ v := le_of_lt_nlen (by omega)
  have := pw_pos (n + 1); omega
 have hP : R / pw i < v * 1000000000 := by
  rw [Nat.div_lt_iff_lt_mul (pw_pos i)]
  rw [pw_succ, Nat.mul_comm (pw i), ← Nat.mul_assoc] at hR; exact hR
 have hPm : R / pw i % pw (n + 3) = R / pw i := by
  refine Nat.mod_eq_of_lt (Nat.lt_trans hP ?_)
  rw [show n + 3 = (n + 2) + 1 from rfl, pw_succ]
  exact Nat.mul_lt_mul_of_pos_right hvu (by omega)
 have hR0 : R / pw (i + (n + 3)) = 0 := by
  refine Nat.div_eq_of_lt (Nat.lt_of_lt_of_le hR ?_)
  have : v * pw (i + 1) ≤ pw (n + 2) * pw (i + 1) := Nat.mul_le_mul_right _ (by omega)
  rw [← pw_add] at this
  rw [show i + (n + 3) = n + 2 + (i + 1) by omega]; exact this
 have hvM : v < pw (n + 3) := Nat.lt_trans hvu (pw_lt (by omega))
 have key : knQ v n R i = R / pw i / v ∧ knP v n R i = R / pw i % v := by
  unfold knQ knP
  rw [hPm]
  obtain ⟨P, hPe⟩ : ∃ P, R / pw i = P := ⟨_, rfl⟩
  rw [hPe] at hP ⊢
  obtain ⟨g1, g2⟩ := kn_guess hv hP
  obtain ⟨g, hg⟩ : ∃ g, P / pw n / (v / pw n) = g := ⟨_, rfl⟩
  rw [hg] at g1 g2
  simp only [hg]
  have e := Nat.div_add_mod P v
  have hm := Nat.mod_lt P h3
  obtain ⟨t, ht⟩ : ∃ t, P / v = t := ⟨_, rfl⟩
  obtain ⟨r, hr⟩ : ∃ r, P % v = r := ⟨_, rfl⟩
  rw [ht, hr] at e
  rw [ht] at g1 g2 ⊢
  rw [hr] at hm ⊢
  rcases (show g = t ∨ g = t + 1 by omega) with h | h
  ·subst h
   have e2 : g * v = v * g := Nat.mul_comm _ _
   rw [if_neg (by omega), if_neg (by omega)]
   exact ⟨rfl, by omega⟩
  ·subst h
   have e2 : (t + 1) * v = v * t + v := by rw [Nat.succ_mul, Nat.mul_comm]
   have e3 : ((P : Int) - ((t + 1 : Nat) : Int) * (v : Int)) = (r : Int) - (v : Int) := by
    rw [← Int.natCast_mul, e2, ← e]; omega
   rw [if_pos (by omega), if_pos (by omega), e3]
   refine ⟨by omega, ?_⟩
   have e4 : (((r : Int) - (v : Int)) % (pw (n + 3) : Int)) = (pw (n + 3) : Int) + (r : Int) - (v : Int) := by
    rw [show (r : Int) - (v : Int) = ((pw (n + 3) : Int) + (r : Int) - (v : Int)) + (pw (n + 3) : Int) * (-1) by omega, Int.add_mul_emod_self_left]
    exact Int.emod_eq_of_lt (by omega) (by omega)
   rw [e4]
   have e5 : ((pw (n + 3) : Int) + (r : Int) - (v : Int)).toNat + v = pw (n + 3) + r := by omega
   rw [e5, Nat.add_mod_left]
   exact Nat.mod_eq_of_lt (by omega)
 refine ⟨key.1, ?_⟩
 unfold knR putN
 rw [key.2, hR0, Nat.zero_mul, Nat.zero_add, Nat.mul_comm v, Nat.mod_mul]
 rw [Nat.mul_comm (pw i)]; omega
def knF (v n : Nat) (s : Nat × (Nat → Int)) (i : Nat) : Nat × (Nat → Int) := (knR v n s.1 i, fun j => if j = i then (knQ v n s.1 i : Int) else s.2 j)
def knA (v n U : Nat) (l : List Nat) : Nat × (Nat → Int) := l.foldl (knF v n) (U, fun _ => 0)
theorem knA_snoc (v n U : Nat) (l : List Nat) (i : Nat) : knA v n U (l ++ [i]) = knF v n (knA v n U l) i := by simp [knA]
theorem kn_digit {U v i : Nat} : U % (v * pw (i + 1)) / pw i / v = dig (U / v) i := by
 rw [Nat.div_div_eq_div_mul, pw_succ, ← Nat.mul_assoc, Nat.mul_comm (pw i) v, Nat.mod_mul_right_div_self]
 unfold dig
 rw [Nat.div_div_eq_div_mul]
theorem kn_rest {U v i : Nat} : U % (v * pw (i + 1)) % (v * pw i) = U % (v * pw i) := by
 refine Nat.mod_mod_of_dvd _ ?_
 rw [pw_succ, ← Nat.mul_assoc]
 exact Nat.dvd_mul_right _ _
theorem mod_lt_mul {U v i : Nat} (hv : 0 < v) : U % (v * pw i) < v * pw i := Nat.mod_lt _ (Nat.mul_pos hv (pw_pos i))
end Go.Proofs.YtlepgkkpopjgoaaGreat
namespace Go.Proofs.YtlepgkkpopjgoaaGreat
set_option maxRecDepth 100000
set_option linter.unusedVariables false
set_option linter.unusedSimpArgs false
def lowP (P q v len : Nat) : Nat := (((P : Int) - (q : Int) * (v : Int)) % (pw len : Int)).toNat
theorem lowP_cast (P q v len : Nat) : ((lowP P q v len : Nat) : Int) = (1 * (P : Int) + (-(q : Int)) * (v : Int)) % (pw len : Int) := by
 unfold lowP
 have hp : (0 : Int) < (pw len : Int) := by have := pw_pos len; omega
 rw [Int.toNat_of_nonneg (Int.emod_nonneg _ (by omega)), Int.one_mul, Int.neg_mul]
 rfl
theorem lowP_lt (P q v len : Nat) : lowP P q v len < pw len := by
 have h := lowP_cast P q v len
 have hp : (0 : Int) < (pw len : Int) := by have := pw_pos len; omega
 have := Int.emod_lt_of_pos (1 * (P : Int) + (-(q : Int)) * (v : Int)) hp
 omega
def lowC (P q v k : Nat) : Int := -comC 1 (-(q : Int)) P v k
theorem lowC_zero (P q v : Nat) : lowC P q v 0 = 0 := by unfold lowC; rw [comC_zero]; rfl
theorem lowC_bound (P q v k : Nat) : 0 ≤ lowC P q v k ∧ lowC P q v k ≤ q + 1 := by
 have h := comC_bound 1 (-(q : Int)) P v k (q + 1) (by omega)
 refine ⟨?_, by unfold lowC; omega⟩
 unfold lowC comC comP
 have hp := pw_pos k
 have h1 := Nat.mod_lt P hp
 have h2 : (1 * ((P % pw k : Nat) : Int) + -(q : Int) * ((v % pw k : Nat) : Int)) / (pw k : Int) < 1 := by
  refine Int.ediv_lt_of_lt_mul (by omega) ?_
  have h3 : 0 ≤ (q : Int) * ((v % pw k : Nat) : Int) := Int.mul_nonneg (by omega) (by omega)
  rw [Int.neg_mul]
  omega
 omega
theorem low_step {P q v len k : Nat} (hk : k < len) {c a e : Nat} (hc : (c : Int) = lowC P q v k) (ha : dig P k = a) (he : dig v k = e) :
  ((c + q * e) % 1000000000 ≤ a → ((dig (lowP P q v len) k : Nat) : Int) = (a : Int) - (((c + q * e) % 1000000000 : Nat) : Int) ∧ (((c + q * e) / 1000000000 : Nat) : Int) = lowC P q v (k + 1)) ∧
  (a < (c + q * e) % 1000000000 → ((dig (lowP P q v len) k : Nat) : Int) = (a : Int) - (((c + q * e) % 1000000000 : Nat) : Int) + 1000000000 ∧ (((c + q * e) / 1000000000 : Nat) : Int) + 1 = lowC P q v (k + 1)) := by
 have h1 := com_digM 1 (-(q : Int)) P v k len (lowP P q v len) hk (lowP_cast P q v len)
 have h2 := comC_succ 1 (-(q : Int)) P v k
 have hal : a < 1000000000 := by rw [← ha]; exact dig_lt _ _
 unfold lowC at hc ⊢
 rw [ha, he] at h1 h2
 have e1 : comC 1 (-(q : Int)) P v k + 1 * (a : Int) + -(q : Int) * (e : Int) = (a : Int) - ((c + q * e : Nat) : Int) := by
  rw [Int.natCast_add, Int.natCast_mul, Int.neg_mul]; omega
 rw [e1] at h1 h2
 generalize c + q * e = t at *
 omega
theorem low_neg {P q v len : Nat} (hP : P < pw len) (hv : v < pw len) : 0 < lowC P q v len ↔ P < q * v := by
 unfold lowC
 rw [comC_full hP hv]
 have hp : (0 : Int) < (pw len : Int) := by have := pw_pos len; omega
 have h := neg_iff (a := 1 * (P : Int) + -(q : Int) * (v : Int)) hp
 have e : 1 * (P : Int) + -(q : Int) * (v : Int) = (P : Int) - ((q * v : Nat) : Int) := by rw [Int.natCast_mul, Int.neg_mul]; omega
 rw [e] at h ⊢
 omega
theorem lowP_sub {P q v len : Nat} (hP : P < pw len) (h : q * v ≤ P) : lowP P q v len = P - q * v := by
 unfold lowP
 have e : (P : Int) - (q : Int) * (v : Int) = ((P - q * v : Nat) : Int) := by rw [← Int.natCast_mul]; omega
 rw [e, ← Int.natCast_emod, Int.toNat_natCast, Nat.mod_eq_of_lt (by omega)]
def highP (P v len : Nat) : Nat := (P + v) % pw len
theorem highP_lt (P v len : Nat) : highP P v len < pw len := Nat.mod_lt _ (pw_pos len)
def highC (P v k : Nat) : Nat := (P % pw k + v % pw k) / pw k
theorem highC_comC (P v k : Nat) : comC 1 1 P v k = (highC P v k : Int) := by
 unfold comC comP highC
 rw [Int.one_mul, Int.one_mul, ← Int.natCast_add, ← Int.natCast_ediv]
theorem highC_zero (P v : Nat) : highC P v 0 = 0 := by unfold highC; rw [pw_zero, Nat.mod_one, Nat.mod_one]
theorem highC_le (P v k : Nat) : highC P v k ≤ 2 := by
 have := comC_bound 1 1 P v k 2 (by omega)
 rw [highC_comC] at this; omega
theorem high_step {P v len k : Nat} (hk : k < len) {c a e : Nat} (hc : c = highC P v k) (ha : dig P k = a) (he : dig v k = e) :
  dig (highP P v len) k = (c + (a + e)) % 1000000000 ∧ (c + (a + e)) / 1000000000 = highC P v (k + 1) := by
 have h1 := com_digM 1 1 P v k len (highP P v len) hk (by unfold highP; rw [Int.natCast_emod, Int.natCast_add, Int.one_mul, Int.one_mul])
 have h2 := comC_succ 1 1 P v k
 rw [highC_comC, highC_comC, ha, he, ← hc] at h2
 rw [highC_comC, ha, he, ← hc] at h1
 omega
def mixF (R o k Q : Nat) (i : Nat) : Int := if o ≤ i ∧ i < o + k then ((dig Q (i - o) : Nat) : Int) else ((dig R i : Nat) : Int)
theorem mixF_zero (R o Q i : Nat) : mixF R o 0 Q i = (dig R i : Int) := by unfold mixF; rw [if_neg (by omega)]
theorem mixF_next (R o k Q : Nat) (i : Nat) : (if i = o + k then ((dig Q k : Nat) : Int) else mixF R o k Q i) = mixF R o (k + 1) Q i := by
 unfold mixF
 by_cases e : i = o + k
 ·subst e
  rw [if_pos rfl, if_pos (by omega)]
  congr 2; omega
 ·rw [if_neg e]
  by_cases h : o ≤ i ∧ i < o + k
  ·rw [if_pos h, if_pos (by omega)]
  ·rw [if_neg h, if_neg (by omega)]
theorem mixF_full {R o len Q : Nat} (hQ : Q < pw len) (i : Nat) : mixF R o len Q i = (dig (putN R o len Q) i : Int) := by
 unfold mixF
 by_cases h : o ≤ i ∧ i < o + len
 ·rw [if_pos h]
  obtain ⟨j, rfl⟩ := Nat.exists_eq_add_of_le h.1
  rw [putN_mid (by omega)]
  congr 2; omega
 ·rw [if_neg h]
  by_cases h1 : i < o
  ·rw [putN_low h1]
  ·obtain ⟨j, rfl⟩ := Nat.exists_eq_add_of_le (show o + len ≤ i by omega)
   rw [putN_high hQ]
theorem mixF_at (R o k Q : Nat) : mixF R o k Q (o + k) = (dig R (o + k) : Int) := by unfold mixF; rw [if_neg (by omega)]
theorem dig_part (R o len k : Nat) (hk : k < len) : dig (R / pw o % pw len) k = dig R (o + k) := by rw [dig_mod hk, dig_div]
theorem dig_part_putN (R o len Q : Nat) (hQ : Q < pw len) : putN R o len Q / pw o % pw len = Q := by
 rw [putN_div, Nat.mul_comm, Nat.mul_add_mod, Nat.mod_eq_of_lt hQ]
theorem putN_putN (R o len Q Q' : Nat) (hQ : Q < pw len) : putN (putN R o len Q) o len Q' = putN R o len Q' := by
 unfold putN
 have h1 : putN R o len Q / pw (o + len) = R / pw (o + len) := by
  rw [pw_add, ← Nat.div_div_eq_div_mul, putN_div, Nat.mul_comm, Nat.mul_add_div (pw_pos len), Nat.div_eq_of_lt hQ, Nat.add_zero, pw_add]
 have h2 := putN_mod_low R o len Q
 unfold putN at h1 h2
 rw [h1, h2]
end Go.Proofs.YtlepgkkpopjgoaaGreat
namespace Go.Proofs.YtlepgkkpopjgoaaGreat
set_option maxRecDepth 100000
set_option linter.unusedVariables false
set_option linter.unusedSimpArgs false
def dStep (a : Nat) (c : UInt8) : Nat := a * 10 + (c.toNat - 48)
def dv (l : List UInt8) : Nat := l.foldl dStep 0
end Go.Proofs.YtlepgkkpopjgoaaGreat
namespace Go.Proofs.YtlepgkkpopjgoaaGreat
set_option maxRecDepth 100000
set_option linter.unusedVariables false
set_option linter.unusedSimpArgs false
end Go.Proofs.YtlepgkkpopjgoaaGreat
namespace Go.Proofs.YtlepgkkpopjgoaaGreat
set_option maxRecDepth 100000
set_option linter.unusedVariables false
set_option linter.unusedSimpArgs false
def lowX (a b : Nat) : Nat := a / Nat.gcd a b
def lowD (a b : Nat) : Nat := b / Nat.gcd a b
theorem gcd_pos' {a b : Nat} (hb : 0 < b) : 0 < Nat.gcd a b := Nat.gcd_pos_of_pos_right _ hb
theorem low_le (a b : Nat) : lowX a b ≤ a ∧ lowD a b ≤ b := ⟨Nat.div_le_self _ _, Nat.div_le_self _ _⟩
theorem lowX_mul (a b : Nat) : lowX a b * Nat.gcd a b = a := Nat.div_mul_cancel (Nat.gcd_dvd_left a b)
theorem lowD_mul (a b : Nat) : lowD a b * Nat.gcd a b = b := Nat.div_mul_cancel (Nat.gcd_dvd_right a b)
theorem lowD_pos {a b : Nat} (hb : 0 < b) : 0 < lowD a b := by
 have h := lowD_mul a b
 rcases Nat.eq_zero_or_pos (lowD a b) with h0 | h0
 ·rw [h0, Nat.zero_mul] at h; omega
 ·exact h0
theorem low_one {a b : Nat} (hb : 0 < b) : Nat.gcd (lowX a b) (lowD a b) = 1 := by
 unfold lowX lowD
 exact Nat.gcd_div_gcd_div_gcd_of_pos_right hb
theorem low_id {a b : Nat} (h : Nat.gcd a b = 1) : lowX a b = a ∧ lowD a b = b := by
 unfold lowX lowD; rw [h, Nat.div_one, Nat.div_one]; exact ⟨rfl, rfl⟩
theorem low_times {a b k : Nat} (hk : 0 < k) : lowX (a * k) (b * k) = lowX a b ∧ lowD (a * k) (b * k) = lowD a b := by
 unfold lowX lowD
 rw [Nat.gcd_mul_right, Nat.mul_div_mul_right _ _ hk, Nat.mul_div_mul_right _ _ hk]
 exact ⟨rfl, rfl⟩
theorem low_cross {a b x y : Nat} (hb : 0 < b) (hy : 0 < y) (h : a * y = x * b) : lowX a b = lowX x y ∧ lowD a b = lowD x y := by
 obtain ⟨h1, h2⟩ := low_times (a := a) (b := b) hy
 obtain ⟨h3, h4⟩ := low_times (a := x) (b := y) hb
 rw [← h1, ← h2, ← h3, ← h4, h, Nat.mul_comm y b]
 exact ⟨rfl, rfl⟩
theorem mul24 {x y : Nat} (hx : x < pw 24) (hy : y < pw 24) : x * y < pw 48 := by
 have := Nat.mul_lt_mul_of_lt_of_le hx (Nat.le_of_lt hy) (pw_pos 24)
 rw [← pw_add] at this
 exact this
theorem add48 {x y : Nat} (hx : x < pw 48) (hy : y < pw 48) : x + y < pw 49 := by
 have : pw 49 = pw 48 * 1000000000 := pw_succ 48
 have := pw_pos 48
 omega
end Go.Proofs.YtlepgkkpopjgoaaGreat
