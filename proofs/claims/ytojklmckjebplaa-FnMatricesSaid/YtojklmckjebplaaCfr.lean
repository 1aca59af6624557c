/- Small fractions as data: a numerator over a denominator; sums and products of them. -/
import Derived.Test.YtojklmckjebplaaVecInner
import Derived.Test.YtojklmckjebplaaRatInt
namespace Go.Proofs.Ytojklmckjebplaa
open Go.RowKit Go.WideShapes Go.ChangeShapes
set_option linter.unusedVariables false
set_option linter.unusedSimpArgs false
def sgnI (b : Bool) (x : Nat) : Int := if b then -(x : Int) else x
theorem sgnI_abs (b : Bool) (x : Nat) : (sgnI b x).natAbs = x := by unfold sgnI; cases b <;> simp
theorem sgAdd_val (b0 : Bool) (x : Nat) (b1 : Bool) (y : Nat) : sgnI (sgAddB b0 x b1 y) (sgAddN b0 x b1 y) = sgnI b0 x + sgnI b1 y := by
  by_cases h : b0 = b1
  · subst h
    rw [(sgAdd_same b0 x y).1, (sgAdd_same b0 x y).2]
    unfold sgnI; cases b0 <;> simp <;> omega
  · by_cases hxy : y ≤ x
    · rw [(sgAdd_left h hxy).1, (sgAdd_left h hxy).2]
      unfold sgnI; cases b0 <;> cases b1 <;> simp_all <;> omega
    · rw [(sgAdd_right h hxy).1, (sgAdd_right h hxy).2]
      unfold sgnI; cases b0 <;> cases b1 <;> simp_all <;> omega
theorem sgnI_mul (b0 : Bool) (x : Nat) (b1 : Bool) (y : Nat) : sgnI (!(b0 == b1)) (x * y) = sgnI b0 x * sgnI b1 y := by
  unfold sgnI; cases b0 <;> cases b1 <;> simp [Int.neg_mul, Int.mul_neg]
/-- the fraction n / d in lowest terms -/
def cf (n : Int) (d : Nat) : Fr := ⟨decide (n < 0), limI (lowX n.natAbs d), limI (lowD n.natAbs d)⟩
theorem cf_val (n : Int) (d : Nat) : sgnI (decide (n < 0)) (lowX n.natAbs d) * (d : Int) = n * (lowD n.natAbs d : Int) := by
  have h1 := lowX_mul n.natAbs d
  have h2 := lowD_mul n.natAbs d
  have h3 : lowX n.natAbs d * d = n.natAbs * lowD n.natAbs d := by
    generalize lowX n.natAbs d = x at h1 ⊢
    generalize lowD n.natAbs d = y at h2 ⊢
    generalize Nat.gcd n.natAbs d = q at h1 h2
    calc x * d = x * (y * q) := by rw [h2]
      _ = (x * q) * y := by simp only [Nat.mul_assoc, Nat.mul_comm, Nat.mul_left_comm]
      _ = n.natAbs * y := by rw [h1]
  have h4 : ((lowX n.natAbs d : Nat) : Int) * (d : Int) = (n.natAbs : Int) * (lowD n.natAbs d : Int) := by rw [← Int.natCast_mul, h3, Int.natCast_mul]
  unfold sgnI
  by_cases hn : n < 0
  · rw [decide_eq_true hn, if_pos rfl, Int.neg_mul, h4]
    rw [show (n.natAbs : Int) = -n by omega, Int.neg_mul, Int.neg_neg]
  · rw [decide_eq_false hn, if_neg (by simp), h4]
    rw [show (n.natAbs : Int) = n by omega]
theorem mk_cf {b : Bool} {X M : Nat} {n : Int} {d : Nat} (hM : 0 < M) (hd : 0 < d) (hv : sgnI b X * (d : Int) = n * (M : Int)) (hx : n.natAbs < pw 24) (hdd : d < pw 24) :
    (⟨mkB b (lowX X M) (lowD X M), mkZ (lowX X M) (lowD X M), mkD (lowX X M) (lowD X M)⟩ : Fr) = cf n d := by
  have hc : X * d = n.natAbs * M := by
    have := congrArg Int.natAbs hv
    rw [Int.natAbs_mul, Int.natAbs_mul, sgnI_abs, Int.natAbs_natCast, Int.natAbs_natCast] at this
    exact this
  obtain ⟨e1, e2⟩ := low_cross hM hd hc
  have hok : okS (lowX n.natAbs d) (lowD n.natAbs d) = true := okS_iff.2 ⟨lowD_pos hd, Nat.lt_of_le_of_lt (low_le _ _).1 hx, Nat.lt_of_le_of_lt (low_le _ _).2 hdd⟩
  rw [e1, e2, (mk_yes hok b).1, (mk_yes hok b).2.1, (mk_yes hok b).2.2]
  unfold cf
  congr 1
  by_cases hn : n = 0
  · subst hn
    rw [show (0 : Int).natAbs = 0 from rfl, (low_zero hd).1]
    simp
  · have hp : 0 < lowX n.natAbs d := lowX_pos (by omega)
    rw [decide_eq_true hp, Bool.and_true]
    have hX : 0 < X := by
      rcases Nat.eq_zero_or_pos X with h0 | h0
      · subst h0
        rw [Nat.zero_mul] at hc
        have := Nat.mul_pos (show 0 < n.natAbs by omega) hM
        omega
      · exact h0
    have hXd : 0 < (X : Int) * (d : Int) := by rw [← Int.natCast_mul]; exact Int.natCast_pos.2 (Nat.mul_pos hX hd)
    cases b with
    | true =>
      have hneg : n * (M : Int) < 0 := by rw [← hv]; unfold sgnI; rw [if_pos rfl, Int.neg_mul]; omega
      rw [decide_eq_true]
      by_cases h : n < 0
      · exact h
      · have := Int.mul_nonneg (show 0 ≤ n by omega) (show (0 : Int) ≤ M by omega); omega
    | false =>
      have hpos : 0 < n * (M : Int) := by rw [← hv]; unfold sgnI; rw [if_neg (by simp)]; exact hXd
      rw [decide_eq_false]
      intro h
      have := Int.mul_nonneg (show 0 ≤ -n by omega) (show (0 : Int) ≤ M by omega)
      rw [Int.neg_mul] at this
      omega
theorem cf_den (n : Int) (d : Nat) (hd : 0 < d) : 0 < lowD n.natAbs d := lowD_pos hd
theorem mul_cf {n m : Int} {d e : Nat} (hd : 0 < d) (he : 0 < e) (hx : (n * m).natAbs < pw 24) (hde : d * e < pw 24) : mulX (cf n d) (cf m e) = cf (n * m) (d * e) := by
  have h1 := cf_val n d
  have h2 := cf_val m e
  unfold mulX
  simp only [cf, natI_limI]
  refine mk_cf (Nat.mul_pos (lowD_pos hd) (lowD_pos he)) (Nat.mul_pos hd he) ?_ hx hde
  rw [sgnI_mul, Int.natCast_mul, Int.natCast_mul]
  generalize sgnI (decide (n < 0)) (lowX n.natAbs d) = s at h1 ⊢
  generalize sgnI (decide (m < 0)) (lowX m.natAbs e) = t at h2 ⊢
  generalize (lowD n.natAbs d : Int) = D at h1 ⊢
  generalize (lowD m.natAbs e : Int) = E at h2 ⊢
  calc s * t * ((d : Int) * (e : Int)) = (s * d) * (t * e) := by simp only [Int.mul_assoc, Int.mul_comm, Int.mul_left_comm]
    _ = (n * D) * (m * E) := by rw [h1, h2]
    _ = n * m * (D * E) := by simp only [Int.mul_assoc, Int.mul_comm, Int.mul_left_comm]
theorem add_cf {n m : Int} {d e : Nat} (hd : 0 < d) (he : 0 < e) (hx : (n * e + m * d).natAbs < pw 24) (hde : d * e < pw 24) : addX (cf n d) (cf m e) = cf (n * e + m * d) (d * e) := by
  have h1 := cf_val n d
  have h2 := cf_val m e
  unfold addX addN
  simp only [cf, natI_limI]
  refine mk_cf (Nat.mul_pos (lowD_pos hd) (lowD_pos he)) (Nat.mul_pos hd he) ?_ hx hde
  rw [sgAdd_val, Int.natCast_mul, Int.natCast_mul]
  have k1 : sgnI (decide (n < 0)) (lowX n.natAbs d * lowD m.natAbs e) = sgnI (decide (n < 0)) (lowX n.natAbs d) * (lowD m.natAbs e : Int) := by
    unfold sgnI; split <;> simp [Int.neg_mul]
  have k2 : sgnI (decide (m < 0)) (lowX m.natAbs e * lowD n.natAbs d) = sgnI (decide (m < 0)) (lowX m.natAbs e) * (lowD n.natAbs d : Int) := by
    unfold sgnI; split <;> simp [Int.neg_mul]
  rw [k1, k2]
  generalize sgnI (decide (n < 0)) (lowX n.natAbs d) = s at h1 ⊢
  generalize sgnI (decide (m < 0)) (lowX m.natAbs e) = t at h2 ⊢
  generalize (lowD n.natAbs d : Int) = D at h1 ⊢
  generalize (lowD m.natAbs e : Int) = E at h2 ⊢
  calc (s * E + t * D) * ((d : Int) * (e : Int)) = (s * d) * (e * E) + (t * e) * (d * D) := by simp only [Int.add_mul, Int.mul_assoc, Int.mul_comm, Int.mul_left_comm]
    _ = (n * D) * (e * E) + (m * E) * (d * D) := by rw [h1, h2]
    _ = (n * e + m * d) * (D * E) := by simp only [Int.add_mul, Int.mul_add, Int.mul_assoc, Int.mul_comm, Int.mul_left_comm]
theorem cf_scale (n : Int) (d k : Nat) (hk : 0 < k) : cf (n * k) (d * k) = cf n d := by
  have h1 : (n * (k : Int)).natAbs = n.natAbs * k := by rw [Int.natAbs_mul, Int.natAbs_natCast]
  have h2 : decide (n * (k : Int) < 0) = decide (n < 0) := by
    have hk' : (0 : Int) < k := by omega
    apply decide_eq_decide.2
    constructor
    · intro h
      by_cases h0 : n < 0
      · exact h0
      · have := Int.mul_nonneg (show 0 ≤ n by omega) (show (0 : Int) ≤ k by omega); omega
    · intro h; exact Int.mul_neg_of_neg_of_pos h hk'
  unfold cf
  rw [h1, (low_times hk).1, (low_times hk).2, h2]
theorem add_same {n m : Int} {D : Nat} (hD : 0 < D) (hx : ((n + m) * D).natAbs < pw 24) (hDD : D * D < pw 24) : addX (cf n D) (cf m D) = cf (n + m) D := by
  rw [add_cf hD hD (by rw [← Int.add_mul]; exact hx) hDD, ← Int.add_mul, cf_scale _ _ _ hD]
theorem cf_zero {D : Nat} (hD : 0 < D) : cf 0 D = zF := by
  unfold cf
  rw [show (0 : Int).natAbs = 0 from rfl, (low_zero hD).1, (low_zero hD).2, limI_zero, limI_1]; rfl
theorem ok_cf {n : Int} {d : Nat} (hd : 0 < d) (hx : n.natAbs < pw 24) (hdd : d < pw 24) : okF (cf n d) = true := by
  show ratOk (decide (n < 0)) (limI (lowX n.natAbs d)) (limI (lowD n.natAbs d)) = true
  rw [ratOk_make (Nat.lt_of_le_of_lt (low_le _ _).1 hx) (Nat.lt_of_le_of_lt (low_le _ _).2 hdd) (lowD_pos hd) (fun h => lowX_pos (by have := of_decide_eq_true h; omega))]
  exact decide_eq_true (low_one hd)
theorem cf_int (n : Int) : (⟨ofB n, ofL n, [1]⟩ : Fr) = cf n 1 := by
  unfold cf lowX lowD ofB ofL
  rw [Nat.gcd_one_right, Nat.div_one, Nat.div_one, limI_1]
theorem pw6 : pw 6 = 1000000000000000000000000000000000000000000000000000000 := by decide
theorem pw24_big {x : Nat} (h : x < 1000000000000000000000000000000000000000000000000000000) : x < pw 24 := Nat.lt_of_lt_of_le (by rw [pw6]; exact h) (pw_mono (by omega : 6 ≤ 24))

end Go.Proofs.Ytojklmckjebplaa
