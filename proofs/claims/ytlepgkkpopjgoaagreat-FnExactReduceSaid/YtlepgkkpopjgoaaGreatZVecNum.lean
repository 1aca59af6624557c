/- Sums, differences and products of fractions as data, and the contracts of both sides over them. -/
import Derived.Test.YtlepgkkpopjgoaaGreatZSpecCore
import Derived.Test.YtlepgkkpopjgoaaGreatZSpecCopy
import Derived.Test.YtlepgkkpopjgoaaGreatZRatOps
import Derived.Test.YtlepgkkpopjgoaaGreatZVecZero
import Derived.Test.YtlepgkkpopjgoaaGreatZVecx
namespace Go.Proofs.YtlepgkkpopjgoaaGreat
open Go.RowKit Go.WideShapes Go.ChangeShapes
set_option linter.unusedVariables false
set_option linter.unusedSimpArgs false

def addN (f g : Fr) : Nat := sgAddN f.neg (natI f.mag * natI g.den) g.neg (natI g.mag * natI f.den)
def addX (f g : Fr) : Fr :=
  ⟨mkB (sgAddB f.neg (natI f.mag * natI g.den) g.neg (natI g.mag * natI f.den)) (lowX (addN f g) (natI f.den * natI g.den)) (lowD (addN f g) (natI f.den * natI g.den)),
   mkZ (lowX (addN f g) (natI f.den * natI g.den)) (lowD (addN f g) (natI f.den * natI g.den)),
   mkD (lowX (addN f g) (natI f.den * natI g.den)) (lowD (addN f g) (natI f.den * natI g.den))⟩
def negX (f : Fr) : Fr := ⟨!f.neg && decide (0 < natI f.mag), f.mag, f.den⟩
def subX (f g : Fr) : Fr := addX f (negX g)
def mulX (f g : Fr) : Fr :=
  ⟨mkB (!(f.neg == g.neg)) (lowX (natI f.mag * natI g.mag) (natI f.den * natI g.den)) (lowD (natI f.mag * natI g.mag) (natI f.den * natI g.den)),
   mkZ (lowX (natI f.mag * natI g.mag) (natI f.den * natI g.den)) (lowD (natI f.mag * natI g.mag) (natI f.den * natI g.den)),
   mkD (lowX (natI f.mag * natI g.mag) (natI f.den * natI g.den)) (lowD (natI f.mag * natI g.mag) (natI f.den * natI g.den))⟩
def okF (f : Fr) : Bool := ratOk f.neg f.mag f.den
/-- a fraction of at most 24 limbs each, valid or not -/
def Small (f : Fr) : Prop := ∃ x d, f.mag = limI x ∧ f.den = limI d ∧ x < pw 24 ∧ d < pw 24
theorem okF_parts {f : Fr} (h : okF f = true) : ∃ b x d, f = ⟨b, limI x, limI d⟩ ∧ x < pw 24 ∧ d < pw 24 ∧ 0 < d ∧ Nat.gcd x d = 1 ∧ (b = true → 0 < x) := by
  obtain ⟨b, m, e⟩ := f
  obtain ⟨x, d, h1, h2, h3⟩ := ratOk_parts h
  dsimp only at h1 h2 h3
  subst h1 h2
  exact ⟨b, x, d, rfl, h3⟩
theorem small_ok {f : Fr} (h : okF f = true) : Small f := by
  obtain ⟨b, x, d, rfl, hx, hd, _⟩ := okF_parts h
  exact ⟨x, d, rfl, rfl, hx, hd⟩
theorem pw24_pos : 0 < pw 24 := Nat.lt_of_lt_of_le (by decide : 0 < pw 0) (pw_mono (by omega))
theorem small_zero : Small Fr.zero := ⟨0, 0, limI_zero.symm, limI_zero.symm, pw24_pos, pw24_pos⟩
theorem small_mk (b : Bool) (X D : Nat) : Small ⟨mkB b X D, mkZ X D, mkD X D⟩ := by
  cases h : okS X D with
  | false => rw [(mk_no h b).1, (mk_no h b).2.1, (mk_no h b).2.2]; exact small_zero
  | true =>
    rw [(mk_yes h b).1, (mk_yes h b).2.1, (mk_yes h b).2.2]
    exact ⟨X, D, rfl, rfl, (okS_iff.1 h).2.1, (okS_iff.1 h).2.2⟩
theorem small_mul (f g : Fr) : Small (mulX f g) := small_mk _ _ _
theorem lowX_gcd {N M : Nat} (h : 0 < M) : Nat.gcd (lowX N M) (lowD N M) = 1 := Nat.gcd_div_gcd_div_gcd_of_pos_right h
theorem ok_mk {b : Bool} {N M : Nat} (h0 : 0 < M) : (⟨mkB b (lowX N M) (lowD N M), mkZ (lowX N M) (lowD N M), mkD (lowX N M) (lowD N M)⟩ : Fr) = Fr.zero ∨ okF ⟨mkB b (lowX N M) (lowD N M), mkZ (lowX N M) (lowD N M), mkD (lowX N M) (lowD N M)⟩ = true := by
  cases h : okS (lowX N M) (lowD N M) with
  | false => exact .inl (by rw [(mk_no h b).1, (mk_no h b).2.1, (mk_no h b).2.2]; rfl)
  | true =>
    right
    obtain ⟨h1, h2, h3⟩ := okS_iff.1 h
    rw [(mk_yes h b).1, (mk_yes h b).2.1, (mk_yes h b).2.2]
    unfold okF
    rw [ratOk_make h2 h3 h1 (fun hb => by simp only [Bool.and_eq_true, decide_eq_true_eq] at hb; exact hb.2)]
    exact decide_eq_true (lowX_gcd h0)
theorem den_pos {f : Fr} (h : okF f = true) : 0 < natI f.den := by
  obtain ⟨b, x, d, rfl, hx, hd, h0, _⟩ := okF_parts h
  show 0 < natI (limI d)
  rw [natI_limI]; exact h0
theorem ok_add {f g : Fr} (hf : okF f = true) (hg : okF g = true) : addX f g = Fr.zero ∨ okF (addX f g) = true := ok_mk (Nat.mul_pos (den_pos hf) (den_pos hg))
theorem ok_mul {f g : Fr} (hf : okF f = true) (hg : okF g = true) : mulX f g = Fr.zero ∨ okF (mulX f g) = true := ok_mk (Nat.mul_pos (den_pos hf) (den_pos hg))
theorem ok_neg {f : Fr} (hf : okF f = true) : okF (negX f) = true := by
  obtain ⟨b, x, d, rfl, hx, hd, h0, hg, hb⟩ := okF_parts hf
  show ratOk (!b && decide (0 < natI (limI x))) (limI x) (limI d) = true
  rw [natI_limI, ratOk_make hx hd h0 (fun h => by simp only [Bool.and_eq_true, decide_eq_true_eq] at h; exact h.2)]
  exact decide_eq_true hg
theorem ok_sub {f g : Fr} (hf : okF f = true) (hg : okF g = true) : subX f g = Fr.zero ∨ okF (subX f g) = true := ok_add hf (ok_neg hg)
theorem bad_ok {f : Fr} (h : okF f = true) : badF f = false := by
  obtain ⟨b, x, d, rfl, hx, hd, h0, _⟩ := okF_parts h
  exact decide_eq_false (fun e => by have := (limI_pos d).2 h0; have e' : (limI d).length = 0 := e; omega)
theorem bad_zero : badF Fr.zero = true := rfl
theorem bad_of {f : Fr} (h : f = Fr.zero ∨ okF f = true) (hb : badF f = true) : f = Fr.zero := by
  rcases h with h | h
  · exact h
  · rw [bad_ok h] at hb; cases hb
theorem ok_of {f : Fr} (h : f = Fr.zero ∨ okF f = true) (hb : badF f = false) : okF f = true := by
  rcases h with h | h
  · rw [h, bad_zero] at hb; cases hb
  · exact h
theorem mk_zeroD (b : Bool) (N M : Nat) (h : M = 0) : (⟨mkB b (lowX N M) (lowD N M), mkZ (lowX N M) (lowD N M), mkD (lowX N M) (lowD N M)⟩ : Fr) = Fr.zero := by
  subst h
  have hk : okS (lowX N 0) (lowD N 0) = false := by unfold lowD; rw [Nat.zero_div]; exact okS_zero _
  rw [(mk_no hk b).1, (mk_no hk b).2.1, (mk_no hk b).2.2]; rfl
theorem natI_nil : natI [] = 0 := by rw [← limI_zero, natI_limI]
theorem add_zeroL (g : Fr) : addX Fr.zero g = Fr.zero := mk_zeroD _ _ _ (by show natI [] * _ = 0; rw [natI_nil, Nat.zero_mul])
theorem add_zeroR (f : Fr) : addX f Fr.zero = Fr.zero := mk_zeroD _ _ _ (by show _ * natI [] = 0; rw [natI_nil, Nat.mul_zero])
theorem natI_one : natI [1] = 1 := by rw [← limI_1, natI_limI]
theorem add_zF {f : Fr} (h : f = Fr.zero ∨ okF f = true) : addX f zF = f := by
  rcases h with rfl | h
  · exact add_zeroL _
  · obtain ⟨b, x, d, rfl, hx, hd, h0, hg, hb⟩ := okF_parts h
    have e1 : addN ⟨b, limI x, limI d⟩ zF = x := by
      show sgAddN b (natI (limI x) * natI [1]) false (natI [] * natI (limI d)) = x
      rw [natI_limI, natI_limI, natI_one, natI_nil, Nat.mul_one, Nat.zero_mul]
      unfold sgAddN; cases b <;> simp
    have e2 : natI (limI d) * natI [1] = d := by rw [natI_limI, natI_one, Nat.mul_one]
    have e3 : (sgAddB b (natI (limI x) * natI [1]) false (natI [] * natI (limI d)) && decide (0 < x)) = b := by
      rw [natI_limI, natI_limI, natI_one, natI_nil, Nat.mul_one, Nat.zero_mul]
      unfold sgAddB; cases b with
      | false => simp
      | true => simp [hb rfl]
    have hk : okS (lowX x d) (lowD x d) = true := by rw [(low_id hg).1, (low_id hg).2]; exact okS_iff.2 ⟨h0, hx, hd⟩
    have hy := fun s => mk_yes (okS_iff.2 ⟨h0, hx, hd⟩) s
    show (⟨mkB _ (lowX (addN ⟨b, limI x, limI d⟩ zF) (natI (limI d) * natI [1])) (lowD (addN ⟨b, limI x, limI d⟩ zF) (natI (limI d) * natI [1])), mkZ (lowX (addN ⟨b, limI x, limI d⟩ zF) (natI (limI d) * natI [1])) (lowD (addN ⟨b, limI x, limI d⟩ zF) (natI (limI d) * natI [1])), mkD (lowX (addN ⟨b, limI x, limI d⟩ zF) (natI (limI d) * natI [1])) (lowD (addN ⟨b, limI x, limI d⟩ zF) (natI (limI d) * natI [1]))⟩ : Fr) = _
    rw [e1, e2, (low_id hg).1, (low_id hg).2, (hy _).1, (hy true).2.1, (hy true).2.2]
    exact congrArg (fun q => (⟨q, limI x, limI d⟩ : Fr)) e3
theorem mul_nil {f g : Fr} (hf : okF f = true) (hg : okF g = true) (h : f.mag.length = 0 ∨ g.mag.length = 0) : mulX f g = zF := by
  have hN : natI f.mag * natI g.mag = 0 := by
    rcases h with h | h
    · rw [List.length_eq_zero_iff.1 h, natI_nil, Nat.zero_mul]
    · rw [List.length_eq_zero_iff.1 h, natI_nil, Nat.mul_zero]
  have hM := Nat.mul_pos (den_pos hf) (den_pos hg)
  have e1 : lowX 0 (natI f.den * natI g.den) = 0 := by unfold lowX; exact Nat.zero_div _
  have e2 : lowD 0 (natI f.den * natI g.den) = 1 := by unfold lowD; rw [Nat.gcd_zero_left]; exact Nat.div_self hM
  have hk : okS 0 1 = true := okS_iff.2 ⟨by omega, pw24_pos, Nat.lt_of_lt_of_le (by decide : 1 < pw 1) (pw_mono (by omega))⟩
  unfold mulX
  rw [hN, e1, e2, (mk_yes hk _).1, (mk_yes hk true).2.1, (mk_yes hk true).2.2, limI_zero, limI_1]
  simp [zF]
/-! the contracts -/
theorem spec_addF (f g : Fr) (hf : Small f) (hg : Small g) (v d v' d' : Value) (w : World) (h0 : RowR w v f.mag d f.den) (h1 : RowR w v' g.mag d' g.den) :
    Calls Tryz.prog 178 #[.agg #[.bool f.neg, v, d], .agg #[.bool g.neg, v', d']] w fun r w' => ∃ x y, r = .returned (.agg #[.bool (addX f g).neg, x, y]) ∧ OwnR w' w.heap.size x (addX f g).mag y (addX f g).den ∧ Below w.heap.size w w' := by
  obtain ⟨b, m, e⟩ := f
  obtain ⟨b', m', e'⟩ := g
  obtain ⟨x, k, rfl, rfl, hx, hk⟩ := hf
  obtain ⟨x', k', rfl, rfl, hx', hk'⟩ := hg
  simp only [addX, addN, natI_limI]
  exact spec_addA b v x d k b' v' x' d' k' w h0 h1 hx hk hx' hk'
theorem spec_mulF (f g : Fr) (hf : Small f) (hg : Small g) (v d v' d' : Value) (w : World) (h0 : RowR w v f.mag d f.den) (h1 : RowR w v' g.mag d' g.den) :
    Calls Tryz.prog 83 #[.agg #[.bool f.neg, v, d], .agg #[.bool g.neg, v', d']] w fun r w' => ∃ x y, r = .returned (.agg #[.bool (mulX f g).neg, x, y]) ∧ OwnR w' w.heap.size x (mulX f g).mag y (mulX f g).den ∧ Below w.heap.size w w' := by
  obtain ⟨b, m, e⟩ := f
  obtain ⟨b', m', e'⟩ := g
  obtain ⟨x, k, rfl, rfl, hx, hk⟩ := hf
  obtain ⟨x', k', rfl, rfl, hx', hk'⟩ := hg
  simp only [mulX, natI_limI]
  exact spec_mulA b v x d k b' v' x' d' k' w h0 h1 hx hk hx' hk'
theorem spec_negF (f : Fr) (hf : Small f) (v d : Value) (w : World) (h0 : RowR w v f.mag d f.den) :
    Calls Tryz.prog 95 #[.agg #[.bool f.neg, v, d]] w fun r w' => ∃ x y, r = .returned (.agg #[.bool (negX f).neg, x, y]) ∧ OwnR w' w.heap.size x (negX f).mag y (negX f).den ∧ Below w.heap.size w w' := by
  obtain ⟨b, m, e⟩ := f
  obtain ⟨x, k, rfl, rfl, hx, hk⟩ := hf
  simp only [negX, natI_limI]
  exact spec_neg b v x d k w h0 hx hk
theorem impl_plusF (f g : Fr) (hf : okF f = true) (hg : okF g = true) (v d v' d' : Value) (w : World) (h0 : RowR w v f.mag d f.den) (h1 : RowR w v' g.mag d' g.den) :
    Calls Tryz.prog 149 #[.agg #[.bool f.neg, v, d], .agg #[.bool g.neg, v', d']] w fun r w' => ∃ x y, r = .returned (.agg #[.bool (addX f g).neg, x, y]) ∧ OwnR w' w.heap.size x (addX f g).mag y (addX f g).den ∧ Below w.heap.size w w' := by
  obtain ⟨b, x, k, rfl, hx, hk, hk0, hgg, hb⟩ := okF_parts hf
  obtain ⟨b', x', k', rfl, hx', hk', hk0', hgg', hb'⟩ := okF_parts hg
  simp only [addX, addN, natI_limI]
  exact impl_plusR b v x d k b' v' x' d' k' w h0 h1 hx hk hx' hk' hk0 hk0' hgg hgg' hb hb'
theorem impl_timesF (f g : Fr) (hf : okF f = true) (hg : okF g = true) (v d v' d' : Value) (w : World) (h0 : RowR w v f.mag d f.den) (h1 : RowR w v' g.mag d' g.den) :
    Calls Tryz.prog 105 #[.agg #[.bool f.neg, v, d], .agg #[.bool g.neg, v', d']] w fun r w' => ∃ x y, r = .returned (.agg #[.bool (mulX f g).neg, x, y]) ∧ OwnR w' w.heap.size x (mulX f g).mag y (mulX f g).den ∧ Below w.heap.size w w' := by
  obtain ⟨b, x, k, rfl, hx, hk, hk0, hgg, hb⟩ := okF_parts hf
  obtain ⟨b', x', k', rfl, hx', hk', hk0', hgg', hb'⟩ := okF_parts hg
  simp only [mulX, natI_limI]
  exact impl_timesR b v x d k b' v' x' d' k' w h0 h1 hx hk hx' hk' hk0 hk0' hgg hgg' hb hb'
theorem impl_oppF (f : Fr) (hf : okF f = true) (v d : Value) (w : World) (h0 : RowR w v f.mag d f.den) :
    Calls Tryz.prog 76 #[.agg #[.bool f.neg, v, d]] w fun r w' => ∃ x y, r = .returned (.agg #[.bool (negX f).neg, x, y]) ∧ OwnR w' w.heap.size x (negX f).mag y (negX f).den ∧ Below w.heap.size w w' := by
  obtain ⟨b, x, k, rfl, hx, hk, hk0, hgg, hb⟩ := okF_parts hf
  simp only [negX, natI_limI]
  exact impl_opposite b v x d k w h0 hx hk hb

end Go.Proofs.YtlepgkkpopjgoaaGreat
