/- Plain facts on decimal texts of numbers in base 1000000000: nine digits a limb. -/
import Derived.Test.YtofmpfcbdemcnaaDoorNum
import Derived.Test.YtofmpfcbdemcnaaDoorParsePlain
namespace Go.Proofs.YtofmpfcbdemcnaaDoor

/-- the k last decimal digits of d -/
def padK : Nat → Nat → List UInt8
  | 0, _ => []
  | k + 1, d => padK k (d / 10) ++ [UInt8.ofNat (48 + d % 10)]
theorem padK_length : ∀ (k d : Nat), (padK k d).length = k
  | 0, _ => rfl
  | k + 1, d => by rw [padK, List.length_append, padK_length k]; rfl
theorem padK_zero : ∀ k, padK k 0 = List.replicate k 48
  | 0 => rfl
  | k + 1 => by
    rw [padK, Nat.zero_div, padK_zero k, List.replicate_succ']
    rfl
theorem dec_lt {u : Nat} (h : u < 10) : Lib.decDigits u = [UInt8.ofNat (48 + u)] := by rw [Lib.decDigits, dif_pos h]
theorem dec_ge {u : Nat} (h : ¬ u < 10) : Lib.decDigits u = Lib.decDigits (u / 10) ++ [UInt8.ofNat (48 + u % 10)] := by rw [Lib.decDigits, dif_neg h]
theorem dec_pos (u : Nat) : 0 < (Lib.decDigits u).length := by rw [Lib.decDigits_length]; exact Lib.nDigits_pos u
theorem dec_short : ∀ (k u : Nat), u < 10 ^ (k + 1) → (Lib.decDigits u).length ≤ k + 1
  | 0, u, h => by rw [dec_lt (by simpa using h)]; simp
  | k + 1, u, h => by
    by_cases h1 : u < 10
    · rw [dec_lt h1]; simp
    · rw [dec_ge h1, List.length_append]
      have := dec_short k (u / 10) (by rw [Nat.pow_succ] at h; omega)
      simp; omega
theorem padK_dec : ∀ (k d : Nat), d < 10 ^ (k + 1) → padK (k + 1) d = List.replicate (k + 1 - (Lib.decDigits d).length) 48 ++ Lib.decDigits d
  | 0, d, h => by
    have h1 : d < 10 := by simpa using h
    rw [dec_lt h1]
    show padK 0 (d / 10) ++ _ = _
    rw [Nat.mod_eq_of_lt h1]; rfl
  | k + 1, d, h => by
    by_cases h1 : d < 10
    · rw [dec_lt h1]
      show padK (k + 1) (d / 10) ++ _ = _
      rw [Nat.div_eq_of_lt h1, padK_zero, Nat.mod_eq_of_lt h1]; rfl
    · rw [dec_ge h1]
      show padK (k + 1) (d / 10) ++ _ = _
      rw [padK_dec k (d / 10) (by rw [Nat.pow_succ] at h; omega), List.append_assoc, List.length_append]
      rw [show k + 1 + 1 - ((Lib.decDigits (d / 10)).length + [UInt8.ofNat (48 + d % 10)].length) = k + 1 - (Lib.decDigits (d / 10)).length by simp]
theorem dec_join : ∀ (k m d : Nat), 0 < m → d < 10 ^ k → Lib.decDigits (m * 10 ^ k + d) = Lib.decDigits m ++ padK k d
  | 0, m, d, hm, hd => by
    obtain rfl : d = 0 := by simpa using hd
    simp [padK]
  | k + 1, m, d, hm, hd => by
    have hp : 0 < 10 ^ k := Nat.pow_pos (by omega)
    have hmk : 1 * 10 ^ k ≤ m * 10 ^ k := Nat.mul_le_mul_right _ hm
    have e0 : m * 10 ^ (k + 1) = m * 10 ^ k * 10 := by rw [Nat.pow_succ, Nat.mul_assoc]
    have hge : ¬ m * 10 ^ (k + 1) + d < 10 := by rw [e0]; omega
    have e1 : (m * 10 ^ (k + 1) + d) / 10 = m * 10 ^ k + d / 10 := by rw [e0]; omega
    have e2 : (m * 10 ^ (k + 1) + d) % 10 = d % 10 := by rw [e0]; omega
    rw [dec_ge hge, e1, e2, dec_join k m (d / 10) hm (by rw [Nat.pow_succ] at hd; omega), List.append_assoc]
    rfl
/-- the text of x down to place i is the text down to place i + 1, and nine digits more -/
theorem dec_step {x i : Nat} (h : 0 < x / pw (i + 1)) : Lib.decDigits (x / pw i) = Lib.decDigits (x / pw (i + 1)) ++ padK 9 (dig x i) := by
  rw [div_step x i]
  exact dec_join 9 _ _ h (dig_lt x i)
theorem padT9 (x i : Nat) : padK 9 (dig x i) = List.replicate (9 - (Lib.decDigits (dig x i)).length) 48 ++ Lib.decDigits (dig x i) := padK_dec 8 _ (dig_lt x i)
theorem dec9 (x i : Nat) : (Lib.decDigits (dig x i)).length ≤ 9 := dec_short 8 _ (dig_lt x i)
theorem dec_limbs : ∀ (n x : Nat), x < pw n → (Lib.decDigits x).length ≤ 9 * n + 1
  | 0, x, h => by
    rw [pw_zero] at h
    rw [dec_lt (by omega)]; simp
  | n + 1, x, h => by
    by_cases h1 : x < 1000000000
    · have := dec_short 8 x h1; omega
    · have hx : x = x / 1000000000 * 10 ^ 9 + x % 1000000000 := by omega
      rw [hx, dec_join 9 _ _ (by omega) (by omega), List.length_append, padK_length]
      have := dec_limbs n (x / 1000000000) (by rw [pw_succ] at h; omega)
      omega

theorem snoc_ind {P : List UInt8 → Prop} (h0 : P []) (h1 : ∀ b c, P b → P (b ++ [c])) (l : List UInt8) : P l := by
  have h : ∀ r : List UInt8, P r.reverse := by
    intro r
    induction r with
    | nil => exact h0
    | cons c r ih => rw [List.reverse_cons]; exact h1 _ c ih
  have := h l.reverse
  rwa [List.reverse_reverse] at this
/-- what digits tell -/
theorem dv_append (a b : List UInt8) : dv (a ++ b) = dv a * 10 ^ b.length + dv b := by
  induction b using snoc_ind with
  | h0 => simp [dv]
  | h1 b c ih =>
    rw [← List.append_assoc, dv_snoc, ih, dv_snoc, List.length_append, List.length_singleton, Nat.pow_succ, Nat.add_mul, Nat.mul_assoc]; omega
theorem dv_lt : ∀ (l : List UInt8), AllDig l → dv l < 10 ^ l.length := by
  intro l
  induction l using snoc_ind with
  | h0 => intro _; simp [dv]
  | h1 b c ih =>
    intro h
    have h1 := ih (fun x hx => h x (by simp [hx]))
    have h2 := h c (by simp)
    rw [dv_snoc, List.length_append, List.length_singleton, Nat.pow_succ]; omega
theorem pw_ten : ∀ k, pw k = 10 ^ (9 * k)
  | 0 => rfl
  | k + 1 => by rw [pw_succ, pw_ten k, Nat.mul_succ 9 k, Nat.pow_add]
/-- the digits ahead of the last 9 k ones tell the number without its k lowest limbs -/
theorem dv_front {l : List UInt8} (h : AllDig l) {k : Nat} (hk : 9 * k ≤ l.length) : dv (l.take (l.length - 9 * k)) = dv l / pw k := by
  obtain ⟨a, ha⟩ : ∃ a, l.take (l.length - 9 * k) = a := ⟨_, rfl⟩
  obtain ⟨b, hb⟩ : ∃ b, l.drop (l.length - 9 * k) = b := ⟨_, rfl⟩
  have hl : l = a ++ b := by rw [← ha, ← hb, List.take_append_drop]
  have hbl : b.length = 9 * k := by rw [← hb, List.length_drop]; omega
  rw [ha]
  conv => rhs; rw [hl, dv_append, hbl, ← pw_ten]
  have hbd : dv b < pw k := by rw [pw_ten, ← hbl]; exact dv_lt b (fun c hc => h c (by rw [hl]; simp [hc]))
  rw [Nat.mul_comm, Nat.mul_add_div (pw_pos k), Nat.div_eq_of_lt hbd, Nat.add_zero]
theorem dv_front0 {l : List UInt8} (h : AllDig l) {k : Nat} (hk : l.length ≤ 9 * k) : dv l / pw k = 0 := by
  refine Nat.div_eq_of_lt (Nat.lt_of_lt_of_le (dv_lt l h) ?_)
  rw [pw_ten]
  exact Nat.pow_le_pow_right (by omega) hk
/-- group k, counted from the end -/
theorem dv_group {l : List UInt8} (h : AllDig l) {k f e : Nat} (he : e = l.length - 9 * k) (hk : 9 * k < l.length) (hf : f = e - 9) : dv ((l.take e).drop f) = dig (dv l) k := by
  have hA : AllDig (l.take e) := fun c hc => h c (List.mem_of_mem_take hc)
  have hsp : dv (l.take e) = dv l / pw k := by rw [he]; exact dv_front h (by omega)
  obtain ⟨a, ha⟩ : ∃ a, (l.take e).take f = a := ⟨_, rfl⟩
  obtain ⟨b, hb⟩ : ∃ b, (l.take e).drop f = b := ⟨_, rfl⟩
  have hl : l.take e = a ++ b := by rw [← ha, ← hb, List.take_append_drop]
  have hbd : dv b < 1000000000 := by
    have h1 := dv_lt b (fun c hc => hA c (by rw [hl]; simp [hc]))
    have h2 : b.length ≤ 9 := by rw [← hb, List.length_drop, List.length_take]; omega
    exact Nat.lt_of_lt_of_le h1 (Nat.pow_le_pow_right (n := 10) (by omega) h2)
  rw [hb]
  unfold dig
  rw [← hsp, hl, dv_append]
  by_cases h9 : 9 ≤ e
  · have h2 : b.length = 9 := by rw [← hb, List.length_drop, List.length_take]; omega
    rw [h2]; omega
  · have ha0 : a = [] := by rw [← ha, show f = 0 by omega]; rfl
    rw [ha0]
    show dv b = (0 * _ + dv b) % _
    omega
theorem dv_nlen {l : List UInt8} (h : AllDig l) {k : Nat} (hk : l.length ≤ 9 * k) : nlen (dv l) ≤ k := by
  rw [nlen_le_iff, pw_ten]
  exact Nat.lt_of_lt_of_le (dv_lt l h) (Nat.pow_le_pow_right (by omega) hk)
theorem dv_dec (n : Nat) : dv (Lib.decDigits n) = n := (dec_all n).2.1
/-- digits without a zero ahead are the text of what they tell -/
theorem dec_dv : ∀ (l : List UInt8), AllDig l → l ≠ [] → (l.length = 1 ∨ l.head? ≠ some 48) → Lib.decDigits (dv l) = l := by
  intro l
  induction l using snoc_ind with
  | h0 => intro _ h _; exact absurd rfl h
  | h1 b c ih =>
    intro h _ h0
    have hc := h c (by simp)
    have hcu : UInt8.ofNat (48 + (c.toNat - 48)) = c := by
      rw [show 48 + (c.toNat - 48) = c.toNat by omega]; simp
    cases b with
    | nil =>
      rw [List.nil_append]
      show Lib.decDigits (0 * 10 + (c.toNat - 48)) = [c]
      rw [dec_lt (by omega), Nat.zero_mul, Nat.zero_add, hcu]
    | cons d r =>
      have hb : AllDig (d :: r) := fun x hx => h x (by simp at hx ⊢; rcases hx with hx | hx <;> simp [hx])
      have hd := hb d (by simp)
      have hd0 : d ≠ 48 := by
        rcases h0 with h0 | h0
        · simp at h0
        · simpa using h0
      have h1 := ih hb (by simp) (.inr (by simpa using hd0))
      have hpos : 0 < dv (d :: r) := by
        rcases Nat.eq_zero_or_pos (dv (d :: r)) with h2 | h2
        · rw [h2] at h1
          have h3 : [UInt8.ofNat (48 + 0)] = d :: r := by rw [← h1]; exact (dec_lt (by omega)).symm
          injection h3 with h4 h5
          exact absurd h4.symm hd0
        · exact h2
      rw [dv_snoc, dec_ge (by omega), show (dv (d :: r) * 10 + (c.toNat - 48)) / 10 = dv (d :: r) by omega, h1, show (dv (d :: r) * 10 + (c.toNat - 48)) % 10 = c.toNat - 48 by omega, hcu]

end Go.Proofs.YtofmpfcbdemcnaaDoor
