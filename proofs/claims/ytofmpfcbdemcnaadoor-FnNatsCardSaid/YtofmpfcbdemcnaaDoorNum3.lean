/- Plain facts on Lehmer's steps of Euclid's algorithm: what the leading digits of two numbers determine holds of the numbers. -/
import Derived.Test.YtofmpfcbdemcnaaDoorNum2
namespace Go.Proofs.YtofmpfcbdemcnaaDoor

/-- one step, the first factor not negative and the second not positive -/
theorem leh_core {x y q f0 f1 s0 s1 S al be : Int} (hf0 : 0 ≤ f0) (hf1 : f1 ≤ 0) (hs0 : s0 ≤ 0) (hs1 : 0 ≤ s1) (hy0 : 0 < y + s0)
    (hq : 0 ≤ q) (h1 : x + f0 < (q + 1) * (y + s0)) (h2 : q * (y + s1) ≤ x + f1) (hS : 0 < S) (ha0 : 0 ≤ al) (ha1 : al < S) (hb0 : 0 ≤ be) (hb1 : be < S) :
    0 ≤ x - q * y ∧ x - q * y < y ∧ 0 ≤ f0 - q * s0 ∧ f1 - q * s1 ≤ 0 ∧ f0 - q * s0 < y ∧ -(f1 - q * s1) < y ∧
    0 ≤ (x * S + f0 * al + f1 * be) - q * (y * S + s0 * al + s1 * be) ∧ (x * S + f0 * al + f1 * be) - q * (y * S + s0 * al + s1 * be) < y * S + s0 * al + s1 * be ∧
    0 ≤ (x - q * y) + (f0 - q * s0) ∧ 0 ≤ (x - q * y) + (f1 - q * s1) := by
  have q0 : q * s0 ≤ 0 := Int.mul_nonpos_of_nonneg_of_nonpos hq hs0
  have q1 : 0 ≤ q * s1 := Int.mul_nonneg hq hs1
  have e1 : (q + 1) * (y + s0) = q * y + q * s0 + y + s0 := by grind
  have e2 : q * (y + s1) = q * y + q * s1 := by grind
  rw [e1] at h1
  rw [e2] at h2
  generalize hqy : q * y = qy at *
  generalize hqs0 : q * s0 = qs0 at *
  generalize hqs1 : q * s1 = qs1 at *
  have E : (x * S + f0 * al + f1 * be) - q * (y * S + s0 * al + s1 * be) = (x - qy) * S + (f0 - qs0) * al + (f1 - qs1) * be := by
    rw [← hqy, ← hqs0, ← hqs1]; grind
  have l1 : 0 ≤ (f0 - qs0) * al := Int.mul_nonneg (by omega) ha0
  have l2 : (f1 - qs1) * S ≤ (f1 - qs1) * be := Int.mul_le_mul_of_nonpos_left (by omega) (by omega)
  have l3 : 0 ≤ ((x - qy) + (f1 - qs1)) * S := Int.mul_nonneg (by omega) (by omega)
  have e3 : ((x - qy) + (f1 - qs1)) * S = (x - qy) * S + (f1 - qs1) * S := by grind
  have F : y * S + s0 * al + s1 * be - ((x - qy) * S + (f0 - qs0) * al + (f1 - qs1) * be) = (y - x + qy) * S + (s0 - f0 + qs0) * al + (s1 - f1 + qs1) * be := by grind
  have l4 : 0 ≤ (s1 - f1 + qs1) * be := Int.mul_nonneg (by omega) hb0
  have l5 : (s0 - f0 + qs0) * S ≤ (s0 - f0 + qs0) * al := Int.mul_le_mul_of_nonpos_left (by omega) (by omega)
  have l6 : 1 * S ≤ ((y - x + qy) + (s0 - f0 + qs0)) * S := Int.mul_le_mul_of_nonneg_right (by omega) (by omega)
  have e4 : ((y - x + qy) + (s0 - f0 + qs0)) * S = (y - x + qy) * S + (s0 - f0 + qs0) * S := by grind
  rw [E]
  refine ⟨by omega, by omega, by omega, by omega, by omega, by omega, by omega, by omega, by omega, by omega⟩

theorem sq_small {s x p : Int} (h0 : 0 ≤ s) (h1 : s < x) (h2 : s * x ≤ p) (hp : p < 1000000000000000000) : s ≤ 999999999 := by
  rcases Int.lt_or_le s 1000000000 with h | h
  · omega
  · have a : 1000000000 * 1000000000 ≤ s * x := Int.mul_le_mul h (by omega) (by omega) h0
    omega

/-- the state of the steps: two numbers with the same greatest common divisor, as multiples of the given ones -/
structure Leh (a b S x0 y0 : Nat) (x y f0 f1 s0 s1 : Int) (A B : Nat) : Prop where
  hA : (A : Int) = f0 * a + f1 * b
  hB : (B : Int) = s0 * a + s1 * b
  hx : x = f0 * x0 + f1 * y0
  hy : y = s0 * x0 + s1 * y0
  gcd : Nat.gcd A B = Nat.gcd a b
  BA : B ≤ A
  Aa : A ≤ a
  Bb : B ≤ b
  less : s0 = 0 ∨ B < b
  x1 : 0 ≤ x
  x2 : x < 1000000000000000000
  y1 : 0 ≤ y
  y2 : y ≤ x
  xf0 : 0 ≤ x + f0
  xf1 : 0 ≤ x + f1
  f0b : -999999999 ≤ f0 ∧ f0 ≤ 999999999
  f1b : -999999999 ≤ f1 ∧ f1 ≤ 999999999
  s0b : -999999999 ≤ s0 ∧ s0 ≤ 999999999
  s1b : -999999999 ≤ s1 ∧ s1 ≤ 999999999
  sgn : (0 ≤ f0 ∧ f1 ≤ 0 ∧ s0 ≤ 0 ∧ 0 ≤ s1 ∧ (x0 : Int) = s1 * x - f1 * y ∧ (y0 : Int) = -s0 * x + f0 * y) ∨
        (f0 ≤ 0 ∧ 0 ≤ f1 ∧ 0 ≤ s0 ∧ s1 ≤ 0 ∧ (x0 : Int) = -s1 * x + f1 * y ∧ (y0 : Int) = s0 * x - f0 * y)

theorem Leh.start {a b S x0 y0 : Nat} (hab : b ≤ a) (hxy : y0 ≤ x0) (hx : x0 < 1000000000000000000) : Leh a b S x0 y0 x0 y0 1 0 0 1 a b :=
  ⟨by omega, by omega, by omega, by omega, rfl, hab, Nat.le_refl _, Nat.le_refl _, .inl rfl, by omega, by omega, by omega, by omega, by omega, by omega, by omega, by omega, by omega, by omega,
    .inl ⟨by omega, by omega, by omega, by omega, by omega, by omega⟩⟩

theorem cast_part {a S x0 al : Nat} (h : a = x0 * S + al) : (a : Int) = (x0 : Int) * (S : Int) + (al : Int) := by
  rw [h]; simp

/-- a step of the leading digits is a step of the numbers -/
theorem Leh.step {a b S x0 y0 : Nat} {x y f0 f1 s0 s1 : Int} {A B : Nat} (h : Leh a b S x0 y0 x y f0 f1 s0 s1 A B) {al be : Nat} (hS : 0 < S)
    (ha : a = x0 * S + al) (hal : al < S) (hb : b = y0 * S + be) (hbe : be < S) (hx0 : x0 < 1000000000000000000) (_ : y0 < 1000000000000000000)
    (g0 : 0 < y + s0) (g1 : 0 < y + s1) {q : Int} (q0 : q = (x + f0) / (y + s0)) (q1 : q = (x + f1) / (y + s1)) :
    Leh a b S x0 y0 y (x - q * y) s0 s1 (f0 - q * s0) (f1 - q * s1) B (A % B) ∧ x - q * y < y ∧ 0 ≤ q ∧ 0 ≤ q * y ∧ q * y ≤ x ∧ (-1999999998 ≤ q * s0 ∧ q * s0 ≤ 1999999998) ∧ (-1999999998 ≤ q * s1 ∧ q * s1 ≤ 1999999998) := by
  have hq : 0 ≤ q := by rw [q0]; exact Int.ediv_nonneg h.xf0 (by omega)
  have a0 : q * (y + s0) ≤ x + f0 := by rw [q0]; exact Int.ediv_mul_le _ (by omega)
  have a1 : x + f0 < (q + 1) * (y + s0) := by rw [q0]; exact Int.lt_ediv_add_one_mul_self _ g0
  have b0 : q * (y + s1) ≤ x + f1 := by rw [q1]; exact Int.ediv_mul_le _ (by omega)
  have b1 : x + f1 < (q + 1) * (y + s1) := by rw [q1]; exact Int.lt_ediv_add_one_mul_self _ g1
  have HA := h.hA
  have HB := h.hB
  rw [cast_part ha, cast_part hb] at HA HB
  have EA : (A : Int) = x * S + f0 * al + f1 * be := by rw [HA, h.hx]; grind
  have EB : (B : Int) = y * S + s0 * al + s1 * be := by rw [HB, h.hy]; grind
  have hA := h.hA
  have hB := h.hB
  have hx := h.hx
  have hy := h.hy
  have hqy : 0 ≤ q * y := Int.mul_nonneg hq h.y1
  have hf0b := h.f0b
  have hf1b := h.f1b
  have hs0b := h.s0b
  have hs1b := h.s1b
  have hAa := h.Aa
  have hBb := h.Bb
  have hBA := h.BA
  have key : ∀ R : Int, R = (A : Int) - q * (B : Int) → 0 ≤ R → R < (B : Int) → ((A % B : Nat) : Int) = R ∧ A % B < B := by
    intro R hR h0 h1
    have hB : 0 < B := by omega
    refine ⟨?_, Nat.mod_lt _ hB⟩
    obtain ⟨r, rfl⟩ := Int.eq_ofNat_of_zero_le h0
    obtain ⟨k, rfl⟩ := Int.eq_ofNat_of_zero_le hq
    have : A = k * B + r := by
      have : (A : Int) = (k : Int) * (B : Int) + (r : Int) := by omega
      rw [← Int.natCast_mul, ← Int.natCast_add] at this
      exact Int.ofNat.inj this
    rw [this, Nat.mul_comm, Nat.mul_add_mod, Nat.mod_eq_of_lt (by omega)]
  have gg : Nat.gcd B (A % B) = Nat.gcd a b := by
    rw [← h.gcd, Nat.gcd_comm A B, Nat.gcd_rec B A, Nat.gcd_comm]
  rcases h.sgn with ⟨c1, c2, c3, c4, c5, c6⟩ | ⟨c1, c2, c3, c4, c5, c6⟩
  · obtain ⟨r1, r2, r3, r4, r5, r6, r7, r8, r9, r10⟩ := leh_core (S := S) (al := al) (be := be) c1 c2 c3 c4 g0 hq a1 b0 (by omega) (by omega) (by omega) (by omega) (by omega)
    rw [← EA, ← EB] at r7 r8
    obtain ⟨k1, k2⟩ := key _ rfl r7 r8
    have t5 : (x0 : Int) = -(f1 - q * s1) * y + s1 * (x - q * y) := by rw [c5]; grind
    have t6 : (y0 : Int) = (f0 - q * s0) * y - s0 * (x - q * y) := by rw [c6]; grind
    have u1 : 0 ≤ s1 * (x - q * y) := Int.mul_nonneg c4 r1
    have u2 : s0 * (x - q * y) ≤ 0 := Int.mul_nonpos_of_nonpos_of_nonneg c3 r1
    have v1 := sq_small (s := -(f1 - q * s1)) (x := y) (p := x0) (by omega) r6 (by omega) (by omega)
    have v0 := sq_small (s := f0 - q * s0) (x := y) (p := y0) r3 r5 (by omega) (by omega)
    refine ⟨⟨hB, ?_, hy, ?_, gg, Nat.le_of_lt k2, by omega, by omega, .inr (by omega), h.y1, by have := h.x2; have := h.y2; omega, r1, by omega, by omega, by omega, hs0b, hs1b, by omega, by omega, .inr ⟨c3, c4, r3, r4, t5, t6⟩⟩, r2, hq, hqy, by omega, by omega, by omega⟩
    · rw [k1, hA, hB]; grind
    · rw [hx, hy]; grind
  · obtain ⟨r1, r2, r3, r4, r5, r6, r7, r8, r9, r10⟩ := leh_core (S := S) (al := be) (be := al) c2 c1 c4 c3 g1 hq b1 a0 (by omega) (by omega) (by omega) (by omega) (by omega)
    have EA' : (A : Int) = x * S + f1 * be + f0 * al := by rw [EA]; omega
    have EB' : (B : Int) = y * S + s1 * be + s0 * al := by rw [EB]; omega
    rw [← EA', ← EB'] at r7 r8
    obtain ⟨k1, k2⟩ := key _ rfl r7 r8
    have t5 : (x0 : Int) = (f1 - q * s1) * y - s1 * (x - q * y) := by rw [c5]; grind
    have t6 : (y0 : Int) = -(f0 - q * s0) * y + s0 * (x - q * y) := by rw [c6]; grind
    have u1 : s1 * (x - q * y) ≤ 0 := Int.mul_nonpos_of_nonpos_of_nonneg c4 r1
    have u2 : 0 ≤ s0 * (x - q * y) := Int.mul_nonneg c3 r1
    have v1 := sq_small (s := f1 - q * s1) (x := y) (p := x0) r3 r5 (by omega) (by omega)
    have v0 := sq_small (s := -(f0 - q * s0)) (x := y) (p := y0) (by omega) r6 (by omega) (by omega)
    refine ⟨⟨hB, ?_, hy, ?_, gg, Nat.le_of_lt k2, by omega, by omega, .inr (by omega), h.y1, by have := h.x2; have := h.y2; omega, r1, by omega, by omega, by omega, hs0b, hs1b, by omega, by omega, .inl ⟨c3, c4, r4, r3, by rw [t5], by rw [t6]⟩⟩, r2, hq, hqy, by omega, by omega, by omega⟩
    · rw [k1, hA, hB]; grind
    · rw [hx, hy]; grind

end Go.Proofs.YtofmpfcbdemcnaaDoor
