/- Plain facts on natural numbers in base 1000000000: the limb at a place, the number of limbs, the number that a list of limbs tells. -/
namespace Go.Proofs.YtofmpfcbdemcnaaDoor

/-- the base to the power i -/
def pw : Nat → Nat
  | 0 => 1
  | i + 1 => pw i * 1000000000
theorem pw_zero : pw 0 = 1 := rfl
theorem pw_one : pw 1 = 1000000000 := rfl
theorem pw_succ (i : Nat) : pw (i + 1) = pw i * 1000000000 := rfl
theorem pw_pos : ∀ i, 0 < pw i
  | 0 => Nat.one_pos
  | i + 1 => Nat.mul_pos (pw_pos i) (by omega)
theorem pw_add (i : Nat) : ∀ j, pw (i + j) = pw i * pw j
  | 0 => by simp [pw_zero]
  | j + 1 => by rw [← Nat.add_assoc, pw_succ, pw_add i j, pw_succ, Nat.mul_assoc]
theorem pw_mono {i j : Nat} (h : i ≤ j) : pw i ≤ pw j := by
  obtain ⟨k, rfl⟩ := Nat.exists_eq_add_of_le h
  rw [pw_add]
  exact Nat.le_mul_of_pos_right _ (pw_pos k)
theorem pw_lt {i j : Nat} (h : i < j) : pw i < pw j := by
  have h1 := pw_mono (show i + 1 ≤ j from h)
  have h2 := pw_pos i
  rw [pw_succ] at h1
  omega
/-- the limb at place i -/
def dig (x i : Nat) : Nat := x / pw i % 1000000000
theorem dig_lt (x i : Nat) : dig x i < 1000000000 := Nat.mod_lt _ (by omega)
theorem div_pw_succ (x i : Nat) : x / pw (i + 1) = x / pw i / 1000000000 := by rw [pw_succ, Nat.div_div_eq_div_mul]
theorem div_step (x i : Nat) : x / pw i = x / pw (i + 1) * 1000000000 + dig x i := by
  rw [div_pw_succ]; unfold dig; omega
theorem mod_step (x i : Nat) : x % pw (i + 1) = x % pw i + pw i * dig x i := by
  rw [pw_succ, Nat.mod_mul]; rfl
theorem dig_zero_of_lt {x i : Nat} (h : x < pw i) : dig x i = 0 := by unfold dig; rw [Nat.div_eq_of_lt h]
theorem dig_of_lt {x i : Nat} (h : x < pw (i + 1)) : dig x i = x / pw i := by
  unfold dig
  rw [Nat.mod_eq_of_lt]
  exact Nat.div_lt_of_lt_mul (by rw [pw_succ] at h; exact h)
theorem div_lt_of {x i : Nat} (h : x < pw (i + 1)) : x / pw i < 1000000000 := Nat.div_lt_of_lt_mul (by rw [pw_succ] at h; exact h)
theorem dig_div (x i j : Nat) : dig (x / pw i) j = dig x (i + j) := by
  unfold dig; rw [Nat.div_div_eq_div_mul, ← pw_add]
theorem dig_mod {x i k : Nat} (h : i < k) : dig (x % pw k) i = dig x i := by
  obtain ⟨j, rfl⟩ := Nat.exists_eq_add_of_lt h
  unfold dig
  rw [show i + j + 1 = i + (j + 1) from rfl, pw_add, Nat.mod_mul_right_div_self, pw_succ, Nat.mul_comm (pw j), Nat.mod_mul_right_mod]
/-- a limb tells only of the number below the next place -/
theorem dig_congr {x y i : Nat} (h : x % pw (i + 1) = y % pw (i + 1)) : dig x i = dig y i := by
  rw [← dig_mod (x := x) (Nat.lt_succ_self i), ← dig_mod (x := y) (Nat.lt_succ_self i), h]

/-- how many limbs -/
def nlen (x : Nat) : Nat := if h : x = 0 then 0 else nlen (x / 1000000000) + 1
termination_by x
decreasing_by omega
theorem nlen_zero : nlen 0 = 0 := by rw [nlen]; simp
theorem nlen_pos {x : Nat} (h : 0 < x) : nlen x = nlen (x / 1000000000) + 1 := by rw [nlen, dif_neg (by omega)]
theorem nlen_le_iff : ∀ (k x : Nat), nlen x ≤ k ↔ x < pw k
  | 0, x => by
    rcases Nat.eq_zero_or_pos x with h | h
    · subst h; rw [nlen_zero, pw_zero]; omega
    · rw [nlen_pos h, pw_zero]; omega
  | k + 1, x => by
    rcases Nat.eq_zero_or_pos x with h | h
    · subst h; rw [nlen_zero]; have := pw_pos (k + 1); omega
    · have ih := nlen_le_iff k (x / 1000000000)
      rw [nlen_pos h, pw_succ]
      have h2 : x / 1000000000 < pw k ↔ x < pw k * 1000000000 := Nat.div_lt_iff_lt_mul (by omega)
      omega
theorem lt_pw_nlen (x : Nat) : x < pw (nlen x) := (nlen_le_iff _ _).1 (Nat.le_refl _)
theorem le_of_lt_nlen {x k : Nat} (h : k < nlen x) : pw k ≤ x := by
  have := (nlen_le_iff k x); omega
theorem nlen_eq {x k : Nat} (h1 : x < pw (k + 1)) (h2 : pw k ≤ x) : nlen x = k + 1 := by
  have a := nlen_le_iff (k + 1) x
  have b := nlen_le_iff k x
  omega
theorem nlen_pos_iff (x : Nat) : 0 < nlen x ↔ 0 < x := by
  rcases Nat.eq_zero_or_pos x with h | h
  · subst h; rw [nlen_zero]
  · rw [nlen_pos h]; omega
theorem nlen_mono {x y : Nat} (h : x ≤ y) : nlen x ≤ nlen y := by
  rw [nlen_le_iff]; exact Nat.lt_of_le_of_lt h (lt_pw_nlen y)
theorem dig_top {x : Nat} (h : 0 < x) : 0 < dig x (nlen x - 1) := by
  have h1 : 0 < nlen x := (nlen_pos_iff x).2 h
  have h2 : nlen x - 1 + 1 = nlen x := by omega
  have h3 := lt_pw_nlen x
  rw [← h2] at h3
  rw [dig_of_lt h3]
  exact Nat.div_pos (le_of_lt_nlen (by omega)) (pw_pos _)
theorem dig_top_zero {x k : Nat} (h : x < pw (k + 1)) (h0 : dig x k = 0) : x < pw k := by
  rw [dig_of_lt h] at h0
  rcases Nat.div_eq_zero_iff.1 h0 with h1 | h1
  · have := pw_pos k; omega
  · exact h1
theorem nlen_of_top {x k : Nat} (h : x < pw (k + 1)) (h0 : dig x k ≠ 0) : nlen x = k + 1 := by
  refine nlen_eq h ?_
  rcases Nat.lt_or_ge x (pw k) with h1 | h1
  · exact absurd (dig_zero_of_lt h1) h0
  · exact h1

/-- the first k limbs -/
def digs (x k : Nat) : List Nat := (List.range k).map (dig x)
theorem digs_length (x k : Nat) : (digs x k).length = k := by simp [digs]
theorem digs_get (x k i : Nat) (h : i < (digs x k).length) : (digs x k)[i]'h = dig x i := by simp [digs]
theorem digs_get? {x k i : Nat} (h : i < k) : (digs x k)[i]? = some (dig x i) := by simp [digs, h]
theorem digs_succ (x k : Nat) : digs x (k + 1) = digs x k ++ [dig x k] := by simp [digs, List.range_succ]
theorem digs_zero (x : Nat) : digs x 0 = [] := rfl
theorem digs_congr {x y k : Nat} (h : ∀ i, i < k → dig x i = dig y i) : digs x k = digs y k := by
  unfold digs
  exact List.map_congr_left (fun i hi => h i (List.mem_range.1 hi))
theorem digs_take {x n k : Nat} (h : k ≤ n) : (digs x n).take k = digs x k := by
  unfold digs
  rw [← List.map_take, List.take_range, Nat.min_eq_left h]
/-- the limbs of x -/
def lim (x : Nat) : List Nat := digs x (nlen x)
theorem lim_length (x : Nat) : (lim x).length = nlen x := digs_length _ _
theorem lim_get (x i : Nat) (h : i < (lim x).length) : (lim x)[i]'h = dig x i := digs_get _ _ _ _
theorem lim_zero : lim 0 = [] := by unfold lim; rw [nlen_zero]; rfl
theorem dig_past {x i : Nat} (h : nlen x ≤ i) : dig x i = 0 := dig_zero_of_lt ((nlen_le_iff _ _).1 h)

/-- the number that a list of limbs tells -/
def val : List Nat → Nat
  | [] => 0
  | x :: r => x + 1000000000 * val r
def AllLimb (l : List Nat) : Prop := ∀ x ∈ l, x < 1000000000
theorem val_lt : ∀ (l : List Nat), AllLimb l → val l < pw l.length
  | [], _ => by simp [val, pw_zero]
  | x :: r, h => by
    have h1 := val_lt r (fun y hy => h y (by simp [hy]))
    have h2 := h x (by simp)
    rw [List.length_cons, pw_succ, val]
    omega
theorem dig_val : ∀ (l : List Nat) (i : Nat) (hi : i < l.length), AllLimb l → dig (val l) i = l[i]'hi
  | x :: r, 0, _, h => by
    have h2 := h x (by simp)
    unfold dig
    rw [pw_zero, val]
    simp
    omega
  | x :: r, i + 1, hi, h => by
    have h2 := h x (by simp)
    have ih := dig_val r i (by simpa using hi) (fun y hy => h y (by simp [hy]))
    rw [List.getElem_cons_succ, ← ih]
    unfold dig
    rw [show i + 1 = 1 + i by omega, pw_add, ← Nat.div_div_eq_div_mul, pw_one, val]
    congr 2
    omega
theorem digs_val (l : List Nat) (h : AllLimb l) : digs (val l) l.length = l := by
  apply List.ext_getElem (by rw [digs_length])
  intro i h1 h2
  rw [digs_get, dig_val l i h2 h]
/-- a list of limbs without a zero at its end is the list of its number's limbs -/
theorem lim_val (l : List Nat) (h : AllLimb l) (ht : ∀ hne : 0 < l.length, l[l.length - 1]'(by omega) ≠ 0) : lim (val l) = l := by
  have e : nlen (val l) = l.length := by
    rcases Nat.eq_zero_or_pos l.length with h0 | h0
    · have : l = [] := List.eq_nil_of_length_eq_zero h0
      subst this
      exact nlen_zero
    · have h1 := val_lt l h
      obtain ⟨k, hk⟩ : ∃ k, l.length = k + 1 := ⟨l.length - 1, by omega⟩
      rw [hk] at h1 ⊢
      refine nlen_of_top h1 ?_
      have := ht h0
      rw [dig_val l k (by omega) h]
      simpa [hk] using this
  unfold lim
  rw [e]
  exact digs_val l h

/-! comparing from the top -/
theorem cmp_lt {x y i : Nat} (h : x / pw (i + 1) = y / pw (i + 1)) (hd : dig x i < dig y i) : x < y := by
  have h1 := div_step x i
  have h2 := div_step y i
  rw [h] at h1
  rcases Nat.lt_or_ge x y with h3 | h3
  · exact h3
  · have := Nat.div_le_div_right (c := pw i) h3
    omega
theorem cmp_up {x y i : Nat} (h : x / pw (i + 1) = y / pw (i + 1)) (hd : dig x i = dig y i) : x / pw i = y / pw i := by
  rw [div_step x i, div_step y i, h, hd]
theorem cmp_end {x y : Nat} (h : x / pw 0 = y / pw 0) : x = y := by
  rw [pw_zero, Nat.div_one, Nat.div_one] at h; exact h
theorem cmp_start {x y k : Nat} (hx : x < pw k) (hy : y < pw k) : x / pw k = y / pw k := by
  rw [Nat.div_eq_of_lt hx, Nat.div_eq_of_lt hy]
theorem lt_of_nlen {x y : Nat} (h : nlen x < nlen y) : x < y :=
  Nat.lt_of_lt_of_le (lt_pw_nlen x) (le_of_lt_nlen h)

/-- less, equal or greater -/
def cmpN (x y : Nat) : Int := if x < y then -1 else if x = y then 0 else 1
theorem cmpN_lt {x y : Nat} (h : x < y) : cmpN x y = -1 := by unfold cmpN; rw [if_pos h]
theorem cmpN_eq (x : Nat) : cmpN x x = 0 := by unfold cmpN; rw [if_neg (by omega), if_pos rfl]
theorem cmpN_gt {x y : Nat} (h : y < x) : cmpN x y = 1 := by unfold cmpN; rw [if_neg (by omega), if_neg (by omega)]
theorem cmpN_neg (x y : Nat) : cmpN x y < 0 ↔ x < y := by unfold cmpN; split <;> (try split) <;> omega

end Go.Proofs.YtofmpfcbdemcnaaDoor
