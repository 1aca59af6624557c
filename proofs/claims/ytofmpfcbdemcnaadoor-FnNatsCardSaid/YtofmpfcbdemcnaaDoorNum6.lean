/- Plain facts on a row of limbs from which a multiple is taken, or to which a number is added, in place. -/
import Derived.Test.YtofmpfcbdemcnaaDoorNum5
namespace Go.Proofs.YtofmpfcbdemcnaaDoor

/-- what is left of P behind q times v, below place len -/
def lowP (P q v len : Nat) : Nat := (((P : Int) - (q : Int) * (v : Int)) % (pw len : Int)).toNat
theorem lowP_cast (P q v len : Nat) : ((lowP P q v len : Nat) : Int) = (1 * (P : Int) + (-(q : Int)) * (v : Int)) % (pw len : Int) := by
  unfold lowP
  have hp : (0 : Int) < (pw len : Int) := by have := pw_pos len; omega
  rw [Int.toNat_of_nonneg (Int.emod_nonneg _ (by omega)), Int.one_mul, Int.neg_mul]
  rfl
theorem lowP_lt (P q v len : Nat) : lowP P q v len < pw len := by
  have h := lowP_cast P q v len
  have hp : (0 : Int) < (pw len : Int) := by have := pw_pos len; omega
  have := Int.emod_lt_of_pos (1 * (P : Int) + (-(q : Int)) * (v : Int)) hp
  omega
/-- the borrow into place k -/
def lowC (P q v k : Nat) : Int := -comC 1 (-(q : Int)) P v k
theorem lowC_zero (P q v : Nat) : lowC P q v 0 = 0 := by unfold lowC; rw [comC_zero]; rfl
theorem lowC_bound (P q v k : Nat) : 0 ≤ lowC P q v k ∧ lowC P q v k ≤ q + 1 := by
  have h := comC_bound 1 (-(q : Int)) P v k (q + 1) (by omega)
  refine ⟨?_, by unfold lowC; omega⟩
  unfold lowC comC comP
  have hp := pw_pos k
  have h1 := Nat.mod_lt P hp
  have h2 : (1 * ((P % pw k : Nat) : Int) + -(q : Int) * ((v % pw k : Nat) : Int)) / (pw k : Int) < 1 := by
    refine Int.ediv_lt_of_lt_mul (by omega) ?_
    have h3 : 0 ≤ (q : Int) * ((v % pw k : Nat) : Int) := Int.mul_nonneg (by omega) (by omega)
    rw [Int.neg_mul]
    omega
  omega
theorem low_step {P q v len k : Nat} (hk : k < len) {c a e : Nat} (hc : (c : Int) = lowC P q v k) (ha : dig P k = a) (he : dig v k = e) :
    ((c + q * e) % 1000000000 ≤ a → ((dig (lowP P q v len) k : Nat) : Int) = (a : Int) - (((c + q * e) % 1000000000 : Nat) : Int) ∧ (((c + q * e) / 1000000000 : Nat) : Int) = lowC P q v (k + 1)) ∧
    (a < (c + q * e) % 1000000000 → ((dig (lowP P q v len) k : Nat) : Int) = (a : Int) - (((c + q * e) % 1000000000 : Nat) : Int) + 1000000000 ∧ (((c + q * e) / 1000000000 : Nat) : Int) + 1 = lowC P q v (k + 1)) := by
  have h1 := com_digM 1 (-(q : Int)) P v k len (lowP P q v len) hk (lowP_cast P q v len)
  have h2 := comC_succ 1 (-(q : Int)) P v k
  have hal : a < 1000000000 := by rw [← ha]; exact dig_lt _ _
  unfold lowC at hc ⊢
  rw [ha, he] at h1 h2
  have e1 : comC 1 (-(q : Int)) P v k + 1 * (a : Int) + -(q : Int) * (e : Int) = (a : Int) - ((c + q * e : Nat) : Int) := by
    rw [Int.natCast_add, Int.natCast_mul, Int.neg_mul]; omega
  rw [e1] at h1 h2
  generalize c + q * e = t at *
  omega
theorem low_neg {P q v len : Nat} (hP : P < pw len) (hv : v < pw len) : 0 < lowC P q v len ↔ P < q * v := by
  unfold lowC
  rw [comC_full hP hv]
  have hp : (0 : Int) < (pw len : Int) := by have := pw_pos len; omega
  have h := neg_iff (a := 1 * (P : Int) + -(q : Int) * (v : Int)) hp
  have e : 1 * (P : Int) + -(q : Int) * (v : Int) = (P : Int) - ((q * v : Nat) : Int) := by rw [Int.natCast_mul, Int.neg_mul]; omega
  rw [e] at h ⊢
  omega
theorem lowP_sub {P q v len : Nat} (hP : P < pw len) (h : q * v ≤ P) : lowP P q v len = P - q * v := by
  unfold lowP
  have e : (P : Int) - (q : Int) * (v : Int) = ((P - q * v : Nat) : Int) := by rw [← Int.natCast_mul]; omega
  rw [e, ← Int.natCast_emod, Int.toNat_natCast, Nat.mod_eq_of_lt (by omega)]

/-- what stands there behind adding v, below place len -/
def highP (P v len : Nat) : Nat := (P + v) % pw len
theorem highP_lt (P v len : Nat) : highP P v len < pw len := Nat.mod_lt _ (pw_pos len)
def highC (P v k : Nat) : Nat := (P % pw k + v % pw k) / pw k
theorem highC_comC (P v k : Nat) : comC 1 1 P v k = (highC P v k : Int) := by
  unfold comC comP highC
  rw [Int.one_mul, Int.one_mul, ← Int.natCast_add, ← Int.natCast_ediv]
theorem highC_zero (P v : Nat) : highC P v 0 = 0 := by unfold highC; rw [pw_zero, Nat.mod_one, Nat.mod_one]
theorem highC_le (P v k : Nat) : highC P v k ≤ 2 := by
  have := comC_bound 1 1 P v k 2 (by omega)
  rw [highC_comC] at this; omega
theorem high_step {P v len k : Nat} (hk : k < len) {c a e : Nat} (hc : c = highC P v k) (ha : dig P k = a) (he : dig v k = e) :
    dig (highP P v len) k = (c + (a + e)) % 1000000000 ∧ (c + (a + e)) / 1000000000 = highC P v (k + 1) := by
  have h1 := com_digM 1 1 P v k len (highP P v len) hk (by unfold highP; rw [Int.natCast_emod, Int.natCast_add, Int.one_mul, Int.one_mul])
  have h2 := comC_succ 1 1 P v k
  rw [highC_comC, highC_comC, ha, he, ← hc] at h2
  rw [highC_comC, ha, he, ← hc] at h1
  omega

/-- a row where the first k limbs from place o on are those of Q, the others those of R -/
def mixF (R o k Q : Nat) (i : Nat) : Int := if o ≤ i ∧ i < o + k then ((dig Q (i - o) : Nat) : Int) else ((dig R i : Nat) : Int)
theorem mixF_zero (R o Q i : Nat) : mixF R o 0 Q i = (dig R i : Int) := by unfold mixF; rw [if_neg (by omega)]
theorem mixF_next (R o k Q : Nat) (i : Nat) : (if i = o + k then ((dig Q k : Nat) : Int) else mixF R o k Q i) = mixF R o (k + 1) Q i := by
  unfold mixF
  by_cases e : i = o + k
  · subst e
    rw [if_pos rfl, if_pos (by omega)]
    congr 2; omega
  · rw [if_neg e]
    by_cases h : o ≤ i ∧ i < o + k
    · rw [if_pos h, if_pos (by omega)]
    · rw [if_neg h, if_neg (by omega)]
theorem mixF_full {R o len Q : Nat} (hQ : Q < pw len) (i : Nat) : mixF R o len Q i = (dig (putN R o len Q) i : Int) := by
  unfold mixF
  by_cases h : o ≤ i ∧ i < o + len
  · rw [if_pos h]
    obtain ⟨j, rfl⟩ := Nat.exists_eq_add_of_le h.1
    rw [putN_mid (by omega)]
    congr 2; omega
  · rw [if_neg h]
    by_cases h1 : i < o
    · rw [putN_low h1]
    · obtain ⟨j, rfl⟩ := Nat.exists_eq_add_of_le (show o + len ≤ i by omega)
      rw [putN_high hQ]
theorem mixF_at (R o k Q : Nat) : mixF R o k Q (o + k) = (dig R (o + k) : Int) := by unfold mixF; rw [if_neg (by omega)]
theorem dig_part (R o len k : Nat) (hk : k < len) : dig (R / pw o % pw len) k = dig R (o + k) := by rw [dig_mod hk, dig_div]
theorem dig_part_putN (R o len Q : Nat) (hQ : Q < pw len) : putN R o len Q / pw o % pw len = Q := by
  rw [putN_div, Nat.mul_comm, Nat.mul_add_mod, Nat.mod_eq_of_lt hQ]
theorem putN_putN (R o len Q Q' : Nat) (hQ : Q < pw len) : putN (putN R o len Q) o len Q' = putN R o len Q' := by
  unfold putN
  have h1 : putN R o len Q / pw (o + len) = R / pw (o + len) := by
    rw [pw_add, ← Nat.div_div_eq_div_mul, putN_div, Nat.mul_comm, Nat.mul_add_div (pw_pos len), Nat.div_eq_of_lt hQ, Nat.add_zero, pw_add]
  have h2 := putN_mod_low R o len Q
  unfold putN at h1 h2
  rw [h1, h2]

end Go.Proofs.YtofmpfcbdemcnaaDoor
