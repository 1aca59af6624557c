/- VecNum Elim VecSub ElDiv. -/
import Derived.Test.YtlepgkkpopjgoaaGreatYSpecCore
import Derived.Test.YtlepgkkpopjgoaaGreatYSpecCopy
import Derived.Test.YtlepgkkpopjgoaaGreatYRatOk
import Derived.Test.YtlepgkkpopjgoaaGreatYVecZero
import Derived.Test.YtlepgkkpopjgoaaGreatYMatId
namespace Go.Proofs.YtlepgkkpopjgoaaGreat
open Go.RowKit Go.WideShapes Go.ChangeShapes
set_option linter.unusedVariables false
set_option linter.unusedSimpArgs false
def addN (f g : Fr) : Nat := sgAddN f.neg (natI f.mag * natI g.den) g.neg (natI g.mag * natI f.den)
def addX (f g : Fr) : Fr :=
  ⟨mkB (sgAddB f.neg (natI f.mag * natI g.den) g.neg (natI g.mag * natI f.den)) (lowX (addN f g) (natI f.den * natI g.den)) (lowD (addN f g) (natI f.den * natI g.den)),
   mkZ (lowX (addN f g) (natI f.den * natI g.den)) (lowD (addN f g) (natI f.den * natI g.den)),
   mkD (lowX (addN f g) (natI f.den * natI g.den)) (lowD (addN f g) (natI f.den * natI g.den))⟩
def negX (f : Fr) : Fr := ⟨!f.neg && decide (0 < natI f.mag), f.mag, f.den⟩
def subX (f g : Fr) : Fr := addX f (negX g)
def mulX (f g : Fr) : Fr :=
  ⟨mkB (!(f.neg == g.neg)) (lowX (natI f.mag * natI g.mag) (natI f.den * natI g.den)) (lowD (natI f.mag * natI g.mag) (natI f.den * natI g.den)),
   mkZ (lowX (natI f.mag * natI g.mag) (natI f.den * natI g.den)) (lowD (natI f.mag * natI g.mag) (natI f.den * natI g.den)),
   mkD (lowX (natI f.mag * natI g.mag) (natI f.den * natI g.den)) (lowD (natI f.mag * natI g.mag) (natI f.den * natI g.den))⟩
def okF (f : Fr) : Bool := ratOk f.neg f.mag f.den
def Small (f : Fr) : Prop := ∃ x d, f.mag = limI x ∧ f.den = limI d ∧ x < pw 24 ∧ d < pw 24
theorem okF_parts {f : Fr} (h : okF f = true) : ∃ b x d, f = ⟨b, limI x, limI d⟩ ∧ x < pw 24 ∧ d < pw 24 ∧ 0 < d ∧ Nat.gcd x d = 1 ∧ (b = true → 0 < x) := by
 obtain ⟨b, m, e⟩ := f
 obtain ⟨x, d, h1, h2, h3⟩ := ratOk_parts h
 dsimp only at h1 h2 h3
 subst h1 h2
 exact ⟨b, x, d, rfl, h3⟩
theorem small_ok {f : Fr} (h : okF f = true) : Small f := by
 obtain ⟨b, x, d, rfl, hx, hd, _⟩ := okF_parts h
 exact ⟨x, d, rfl, rfl, hx, hd⟩
theorem pw24_pos : 0 < pw 24 := Nat.lt_of_lt_of_le (by decide : 0 < pw 0) (pw_mono (by omega))
theorem small_zero : Small Fr.zero := ⟨0, 0, limI_zero.symm, limI_zero.symm, pw24_pos, pw24_pos⟩
theorem small_mk (b : Bool) (X D : Nat) : Small ⟨mkB b X D, mkZ X D, mkD X D⟩ := by
 cases h : okS X D with
 | false => rw [(mk_no h b).1, (mk_no h b).2.1, (mk_no h b).2.2]; exact small_zero
 | true =>
  rw [(mk_yes h b).1, (mk_yes h b).2.1, (mk_yes h b).2.2]
  exact ⟨X, D, rfl, rfl, (okS_iff.1 h).2.1, (okS_iff.1 h).2.2⟩
theorem small_mul (f g : Fr) : Small (mulX f g) := small_mk _ _ _
theorem lowX_gcd {N M : Nat} (h : 0 < M) : Nat.gcd (lowX N M) (lowD N M) = 1 := Nat.gcd_div_gcd_div_gcd_of_pos_right h
theorem ok_mk {b : Bool} {N M : Nat} (h0 : 0 < M) : (⟨mkB b (lowX N M) (lowD N M), mkZ (lowX N M) (lowD N M), mkD (lowX N M) (lowD N M)⟩ : Fr) = Fr.zero ∨ okF ⟨mkB b (lowX N M) (lowD N M), mkZ (lowX N M) (lowD N M), mkD (lowX N M) (lowD N M)⟩ = true := by
 cases h : okS (lowX N M) (lowD N M) with
 | false => exact .inl (by rw [(mk_no h b).1, (mk_no h b).2.1, (mk_no h b).2.2]; rfl)
 | true =>
  right
  obtain ⟨h1, h2, h3⟩ := okS_iff.1 h
  rw [(mk_yes h b).1, (mk_yes h b).2.1, (mk_yes h b).2.2]
  unfold okF
  rw [ratOk_make h2 h3 h1 (fun hb => by simp only [Bool.and_eq_true, decide_eq_true_eq] at hb; exact hb.2)]
  exact decide_eq_true (lowX_gcd h0)
theorem den_pos {f : Fr} (h : okF f = true) : 0 < natI f.den := by
 obtain ⟨b, x, d, rfl, hx, hd, h0, _⟩ := okF_parts h
 show 0 < natI (limI d)
 rw [natI_limI]; exact h0
theorem ok_add {f g : Fr} (hf : okF f = true) (hg : okF g = true) : addX f g = Fr.zero ∨ okF (addX f g) = true := ok_mk (Nat.mul_pos (den_pos hf) (den_pos hg))
theorem ok_mul {f g : Fr} (hf : okF f = true) (hg : okF g = true) : mulX f g = Fr.zero ∨ okF (mulX f g) = true := ok_mk (Nat.mul_pos (den_pos hf) (den_pos hg))
theorem ok_neg {f : Fr} (hf : okF f = true) : okF (negX f) = true := by
 obtain ⟨b, x, d, rfl, hx, hd, h0, hg, hb⟩ := okF_parts hf
 show ratOk (!b && decide (0 < natI (limI x))) (limI x) (limI d) = true
 rw [natI_limI, ratOk_make hx hd h0 (fun h => by simp only [Bool.and_eq_true, decide_eq_true_eq] at h; exact h.2)]
 exact decide_eq_true hg
theorem ok_sub {f g : Fr} (hf : okF f = true) (hg : okF g = true) : subX f g = Fr.zero ∨ okF (subX f g) = true := ok_add hf (ok_neg hg)
theorem bad_ok {f : Fr} (h : okF f = true) : badF f = false := by
 obtain ⟨b, x, d, rfl, hx, hd, h0, _⟩ := okF_parts h
 exact decide_eq_false (fun e => by have := (limI_pos d).2 h0; have e' : (limI d).length = 0 := e; omega)
theorem bad_zero : badF Fr.zero = true := rfl
theorem bad_of {f : Fr} (h : f = Fr.zero ∨ okF f = true) (hb : badF f = true) : f = Fr.zero := by
 rcases h with h | h
 ·exact h
 ·rw [bad_ok h] at hb; cases hb
theorem ok_of {f : Fr} (h : f = Fr.zero ∨ okF f = true) (hb : badF f = false) : okF f = true := by
 rcases h with h | h
 ·rw [h, bad_zero] at hb; cases hb
 ·exact h
theorem mk_zeroD (b : Bool) (N M : Nat) (h : M = 0) : (⟨mkB b (lowX N M) (lowD N M), mkZ (lowX N M) (lowD N M), mkD (lowX N M) (lowD N M)⟩ : Fr) = Fr.zero := by
 subst h
 have hk : okS (lowX N 0) (lowD N 0) = false := by unfold lowD; rw [Nat.zero_div]; exact okS_zero _
 rw [(mk_no hk b).1, (mk_no hk b).2.1, (mk_no hk b).2.2]; rfl
theorem natI_nil : natI [] = 0 := by rw [← limI_zero, natI_limI]
theorem add_zeroL (g : Fr) : addX Fr.zero g = Fr.zero := mk_zeroD _ _ _ (by show natI [] * _ = 0; rw [natI_nil, Nat.zero_mul])
theorem add_zeroR (f : Fr) : addX f Fr.zero = Fr.zero := mk_zeroD _ _ _ (by show _ * natI [] = 0; rw [natI_nil, Nat.mul_zero])
theorem natI_one : natI [1] = 1 := by rw [← limI_1, natI_limI]
theorem ok_zF : okF zF = true := by
 show ratOk false [] [1] = true
 rw [← limI_1, ← limI_zero, ratOk_make pw24_pos (Nat.lt_of_lt_of_le (by decide : 1 < pw 1) (pw_mono (by omega))) (by omega) (by intro h; cases h)]
 exact decide_eq_true (by simp)
theorem add_zF {f : Fr} (h : f = Fr.zero ∨ okF f = true) : addX f zF = f := by
 rcases h with rfl | h
 ·exact add_zeroL _
 ·obtain ⟨b, x, d, rfl, hx, hd, h0, hg, hb⟩ := okF_parts h
  have e1 : addN ⟨b, limI x, limI d⟩ zF = x := by
   show sgAddN b (natI (limI x) * natI [1]) false (natI [] * natI (limI d)) = x
   rw [natI_limI, natI_limI, natI_one, natI_nil, Nat.mul_one, Nat.zero_mul]
   unfold sgAddN; cases b <;> simp
  have e2 : natI (limI d) * natI [1] = d := by rw [natI_limI, natI_one, Nat.mul_one]
  have e3 : (sgAddB b (natI (limI x) * natI [1]) false (natI [] * natI (limI d)) && decide (0 < x)) = b := by
   rw [natI_limI, natI_limI, natI_one, natI_nil, Nat.mul_one, Nat.zero_mul]
   unfold sgAddB; cases b with
   | false => simp
   | true => simp [hb rfl]
  have hk : okS (lowX x d) (lowD x d) = true := by rw [(low_id hg).1, (low_id hg).2]; exact okS_iff.2 ⟨h0, hx, hd⟩
  have hy := fun s => mk_yes (okS_iff.2 ⟨h0, hx, hd⟩) s
  show (⟨mkB _ (lowX (addN ⟨b, limI x, limI d⟩ zF) (natI (limI d) * natI [1])) (lowD (addN ⟨b, limI x, limI d⟩ zF) (natI (limI d) * natI [1])), mkZ (lowX (addN ⟨b, limI x, limI d⟩ zF) (natI (limI d) * natI [1])) (lowD (addN ⟨b, limI x, limI d⟩ zF) (natI (limI d) * natI [1])), mkD (lowX (addN ⟨b, limI x, limI d⟩ zF) (natI (limI d) * natI [1])) (lowD (addN ⟨b, limI x, limI d⟩ zF) (natI (limI d) * natI [1]))⟩ : Fr) = _
  rw [e1, e2, (low_id hg).1, (low_id hg).2, (hy _).1, (hy true).2.1, (hy true).2.2]
  exact congrArg (fun q => (⟨q, limI x, limI d⟩ : Fr)) e3
theorem mul_nil {f g : Fr} (hf : okF f = true) (hg : okF g = true) (h : f.mag.length = 0 ∨ g.mag.length = 0) : mulX f g = zF := by
 have hN : natI f.mag * natI g.mag = 0 := by
  rcases h with h | h
  ·rw [List.length_eq_zero_iff.1 h, natI_nil, Nat.zero_mul]
  ·rw [List.length_eq_zero_iff.1 h, natI_nil, Nat.mul_zero]
 have hM := Nat.mul_pos (den_pos hf) (den_pos hg)
 have e1 : lowX 0 (natI f.den * natI g.den) = 0 := by unfold lowX; exact Nat.zero_div _
 have e2 : lowD 0 (natI f.den * natI g.den) = 1 := by unfold lowD; rw [Nat.gcd_zero_left]; exact Nat.div_self hM
 have hk : okS 0 1 = true := okS_iff.2 ⟨by omega, pw24_pos, Nat.lt_of_lt_of_le (by decide : 1 < pw 1) (pw_mono (by omega))⟩
 unfold mulX
 rw [hN, e1, e2, (mk_yes hk _).1, (mk_yes hk true).2.1, (mk_yes hk true).2.2, limI_zero, limI_1]
 simp [zF]
theorem spec_addF (f g : Fr) (hf : Small f) (hg : Small g) (v d v' d' : Value) (w : World) (h0 : RowR w v f.mag d f.den) (h1 : RowR w v' g.mag d' g.den) :
  Calls Tryz.prog 178 #[.agg #[.bool f.neg, v, d], .agg #[.bool g.neg, v', d']] w fun r w' => ∃ x y, r = .returned (.agg #[.bool (addX f g).neg, x, y]) ∧ OwnR w' w.heap.size x (addX f g).mag y (addX f g).den ∧ Below w.heap.size w w' := by
 obtain ⟨b, m, e⟩ := f
 obtain ⟨b', m', e'⟩ := g
 obtain ⟨x, k, rfl, rfl, hx, hk⟩ := hf
 obtain ⟨x', k', rfl, rfl, hx', hk'⟩ := hg
 simp only [addX, addN, natI_limI]
 exact spec_addA b v x d k b' v' x' d' k' w h0 h1 hx hk hx' hk'
theorem spec_mulF (f g : Fr) (hf : Small f) (hg : Small g) (v d v' d' : Value) (w : World) (h0 : RowR w v f.mag d f.den) (h1 : RowR w v' g.mag d' g.den) :
  Calls Tryz.prog 83 #[.agg #[.bool f.neg, v, d], .agg #[.bool g.neg, v', d']] w fun r w' => ∃ x y, r = .returned (.agg #[.bool (mulX f g).neg, x, y]) ∧ OwnR w' w.heap.size x (mulX f g).mag y (mulX f g).den ∧ Below w.heap.size w w' := by
 obtain ⟨b, m, e⟩ := f
 obtain ⟨b', m', e'⟩ := g
 obtain ⟨x, k, rfl, rfl, hx, hk⟩ := hf
 obtain ⟨x', k', rfl, rfl, hx', hk'⟩ := hg
 simp only [mulX, natI_limI]
 exact spec_mulA b v x d k b' v' x' d' k' w h0 h1 hx hk hx' hk'
theorem spec_negF (f : Fr) (hf : Small f) (v d : Value) (w : World) (h0 : RowR w v f.mag d f.den) :
  Calls Tryz.prog 95 #[.agg #[.bool f.neg, v, d]] w fun r w' => ∃ x y, r = .returned (.agg #[.bool (negX f).neg, x, y]) ∧ OwnR w' w.heap.size x (negX f).mag y (negX f).den ∧ Below w.heap.size w w' := by
 obtain ⟨b, m, e⟩ := f
 obtain ⟨x, k, rfl, rfl, hx, hk⟩ := hf
 simp only [negX, natI_limI]
 exact spec_neg b v x d k w h0 hx hk
theorem impl_plusF (f g : Fr) (hf : okF f = true) (hg : okF g = true) (v d v' d' : Value) (w : World) (h0 : RowR w v f.mag d f.den) (h1 : RowR w v' g.mag d' g.den) :
  Calls Tryz.prog 149 #[.agg #[.bool f.neg, v, d], .agg #[.bool g.neg, v', d']] w fun r w' => ∃ x y, r = .returned (.agg #[.bool (addX f g).neg, x, y]) ∧ OwnR w' w.heap.size x (addX f g).mag y (addX f g).den ∧ Below w.heap.size w w' := by
 obtain ⟨b, x, k, rfl, hx, hk, hk0, hgg, hb⟩ := okF_parts hf
 obtain ⟨b', x', k', rfl, hx', hk', hk0', hgg', hb'⟩ := okF_parts hg
 simp only [addX, addN, natI_limI]
 exact impl_plusR b v x d k b' v' x' d' k' w h0 h1 hx hk hx' hk' hk0 hk0' hgg hgg' hb hb'
theorem impl_timesF (f g : Fr) (hf : okF f = true) (hg : okF g = true) (v d v' d' : Value) (w : World) (h0 : RowR w v f.mag d f.den) (h1 : RowR w v' g.mag d' g.den) :
  Calls Tryz.prog 105 #[.agg #[.bool f.neg, v, d], .agg #[.bool g.neg, v', d']] w fun r w' => ∃ x y, r = .returned (.agg #[.bool (mulX f g).neg, x, y]) ∧ OwnR w' w.heap.size x (mulX f g).mag y (mulX f g).den ∧ Below w.heap.size w w' := by
 obtain ⟨b, x, k, rfl, hx, hk, hk0, hgg, hb⟩ := okF_parts hf
 obtain ⟨b', x', k', rfl, hx', hk', hk0', hgg', hb'⟩ := okF_parts hg
 simp only [mulX, natI_limI]
 exact impl_timesR b v x d k b' v' x' d' k' w h0 h1 hx hk hx' hk' hk0 hk0' hgg hgg' hb hb'
theorem impl_oppF (f : Fr) (hf : okF f = true) (v d : Value) (w : World) (h0 : RowR w v f.mag d f.den) :
  Calls Tryz.prog 76 #[.agg #[.bool f.neg, v, d]] w fun r w' => ∃ x y, r = .returned (.agg #[.bool (negX f).neg, x, y]) ∧ OwnR w' w.heap.size x (negX f).mag y (negX f).den ∧ Below w.heap.size w w' := by
 obtain ⟨b, x, k, rfl, hx, hk, hk0, hgg, hb⟩ := okF_parts hf
 simp only [negX, natI_limI]
 exact impl_opposite b v x d k w h0 hx hk hb
end Go.Proofs.YtlepgkkpopjgoaaGreat
namespace Go.Proofs.YtlepgkkpopjgoaaGreat
open Go.RowKit Go.WideShapes Go.ChangeShapes
set_option linter.unusedVariables false
set_option linter.unusedSimpArgs false
def nilF (f : Fr) : Bool := decide (f.mag.length = 0)
def divX (f g : Fr) : Fr :=
  ⟨mkB (!(f.neg == g.neg)) (lowX (natI f.mag * natI g.den) (natI f.den * natI g.mag)) (lowD (natI f.mag * natI g.den) (natI f.den * natI g.mag)),
   mkZ (lowX (natI f.mag * natI g.den) (natI f.den * natI g.mag)) (lowD (natI f.mag * natI g.den) (natI f.den * natI g.mag)),
   mkD (lowX (natI f.mag * natI g.den) (natI f.den * natI g.mag)) (lowD (natI f.mag * natI g.den) (natI f.den * natI g.mag))⟩
theorem nil_mag {f : Fr} (hf : okF f = true) (h : nilF f = false) : 0 < natI f.mag := by
 obtain ⟨b, x, d, rfl, hx, hd, h0, hg, hb⟩ := okF_parts hf
 show 0 < natI (limI x)
 rw [natI_limI]
 rcases Nat.eq_zero_or_pos x with h1 | h1
 ·subst h1; rw [limI_zero] at h; have h9 : nilF ⟨b, [], limI d⟩ = true := rfl; rw [h9] at h; cases h
 ·exact h1
theorem ok_div {f g : Fr} (hf : okF f = true) (hg : okF g = true) (h : nilF g = false) : divX f g = Fr.zero ∨ okF (divX f g) = true := ok_mk (Nat.mul_pos (den_pos hf) (nil_mag hg h))
def invX (f : Fr) : Fr := ⟨f.neg, f.den, f.mag⟩
theorem ok_inv {f : Fr} (hf : okF f = true) (h : nilF f = false) : okF (invX f) = true := by
 have hm := nil_mag hf h
 obtain ⟨b, x, d, rfl, hx, hd, h0, hg, hb⟩ := okF_parts hf
 have h1 : natI (limI x) = x := natI_limI x
 have hm' : 0 < x := by rw [← h1]; exact hm
 show ratOk b (limI d) (limI x) = true
 rw [ratOk_make hd hx hm' (fun _ => h0)]
 exact decide_eq_true (by rw [Nat.gcd_comm]; exact hg)
theorem mul_inv (f g : Fr) : mulX f (invX g) = divX f g := rfl
def goodF (f : Fr) : Prop := f = Fr.zero ∨ okF f = true
theorem gd_small {f : Fr} (h : goodF f) : Small f := by
 rcases h with rfl | h
 ·exact small_zero
 ·exact small_ok h
theorem ok_bad {f : Fr} (h : goodF f) : okF f = !badF f := by
 rcases h with rfl | h
 ·rfl
 ·rw [h, bad_ok h]; rfl
def tabM (R C : Nat) (g : Nat → Nat → Fr) : List Fr := (List.range (R * C)).map (fun p => g (p / C) (p % C))
theorem tabM_len (R C : Nat) (g : Nat → Nat → Fr) : (tabM R C g).length = R * C := by simp [tabM]
theorem div_at {i k C : Nat} (hk : k < C) : (i * C + k) / C = i := by
 rw [Nat.mul_comm, Nat.mul_add_div (by omega), Nat.div_eq_of_lt hk]; rfl
theorem mod_at {i k C : Nat} (hk : k < C) : (i * C + k) % C = k := by
 rw [Nat.mul_comm, Nat.mul_add_mod, Nat.mod_eq_of_lt hk]
theorem at_lt {i k R C : Nat} (hi : i < R) (hk : k < C) : i * C + k < R * C := by
 have := row_in (C := C) hi; omega
theorem tabM_get {R C i k : Nat} {g : Nat → Nat → Fr} (hk : k < C) (h : i * C + k < (tabM R C g).length) : (tabM R C g)[i * C + k]'h = g i k := by
 simp [tabM, div_at hk, mod_at hk]
theorem tabM_congr {R C : Nat} {g g' : Nat → Nat → Fr} (h : ∀ a b, a < R → b < C → g a b = g' a b) : tabM R C g = tabM R C g' := by
 unfold tabM
 apply List.map_congr_left
 intro p hp
 have hlt := List.mem_range.1 hp
 have hC : 0 < C := by
  rcases Nat.eq_zero_or_pos C with h0 | h0
  ·subst h0; omega
  ·exact h0
 exact h _ _ (by rw [Nat.div_lt_iff_lt_mul hC]; exact hlt) (Nat.mod_lt _ hC)
theorem tabM_set {R C i k : Nat} {g : Nat → Nat → Fr} (x : Fr) (hk : k < C) : (tabM R C g).set (i * C + k) x = tabM R C (fun a b => if a = i ∧ b = k then x else g a b) := by
 apply List.ext_getElem (by simp [tabM])
 intro p h1 h2
 rw [List.getElem_set]
 simp only [tabM, List.getElem_map, List.getElem_range]
 by_cases e : i * C + k = p
 ·subst e
  rw [if_pos rfl, div_at hk, mod_at hk, if_pos ⟨rfl, rfl⟩]
 ·rw [if_neg e, if_neg]
  rintro ⟨e1, e2⟩
  have := Nat.div_add_mod' p C
  rw [e1, e2] at this
  exact e this
theorem tabM_self {R C : Nat} {L : List Fr} (h : L.length = R * C) : tabM R C (elM L C) = L := by
 apply List.ext_getElem (by rw [tabM_len, h])
 intro p h1 h2
 simp only [tabM, List.getElem_map, List.getElem_range, elM]
 rw [Nat.div_add_mod', List.getElem?_eq_getElem h2, Option.getD_some]
theorem tabM_all {R C : Nat} {g : Nat → Nat → Fr} {P : Fr → Bool} : (tabM R C g).all P = true ↔ ∀ a b, a < R → b < C → P (g a b) = true := by
 rw [List.all_eq_true]
 constructor
 ·intro h a b ha hb
  have h1 : a * C + b < (tabM R C g).length := by rw [tabM_len]; exact at_lt ha hb
  have := h _ (List.getElem_mem h1)
  rwa [tabM_get hb] at this
 ·intro h f hf
  simp only [tabM, List.mem_map, List.mem_range] at hf
  obtain ⟨p, hp, rfl⟩ := hf
  have hC : 0 < C := by
   rcases Nat.eq_zero_or_pos C with h0 | h0
   ·subst h0; omega
   ·exact h0
  exact h _ _ (by rw [Nat.div_lt_iff_lt_mul hC]; exact hp) (Nat.mod_lt _ hC)
abbrev Mx := Nat → Nat → Fr
def exG (g : Mx) (i n : Nat) : Mx := fun a b => if a = i then g n b else if a = n then g i b else g a b
def exP (g : Mx) (i n j : Nat) : Mx := fun a b => if b < j then exG g i n a b else g a b
def dvG (g : Mx) (n k : Nat) : Mx := fun a b => if a = n ∧ k ≤ b then divX (g n b) (g n k) else g a b
def dvP (g : Mx) (n k j : Nat) : Mx := fun a b => if a = n ∧ k ≤ b ∧ b < j then divX (g n b) (g n k) else g a b
def clE (g : Mx) (n k a b : Nat) : Fr := if nilF (g a k) || nilF (g n b) then g a b else subX (g a b) (mulX (g a k) (g n b))
def clP (g : Mx) (n k i j : Nat) : Mx := fun a b => if a ≠ n ∧ k ≤ b ∧ (a < i ∨ (a = i ∧ b < j)) then clE g n k a b else g a b
def clG (g : Mx) (n k : Nat) : Mx := fun a b => if a ≠ n ∧ k ≤ b then clE g n k a b else g a b
theorem exP_zero (g : Mx) (i n : Nat) : exP g i n 0 = g := by funext a b; simp [exP]
theorem exG_self (g : Mx) (n : Nat) : exG g n n = g := by
 funext a b
 unfold exG
 split
 ·next h => rw [h]
 ·rfl
theorem exP_end {R C : Nat} (g : Mx) (i n : Nat) : tabM R C (exP g i n C) = tabM R C (exG g i n) := tabM_congr (fun a b _ hb => by simp [exP, hb])
theorem exP_step {R C : Nat} {g : Mx} {i n j : Nat} (hi : i < R) (hn : n < R) (hj : j < C) :
  ((tabM R C (exP g i n j)).set (i * C + j) (g n j)).set (n * C + j) (g i j) = tabM R C (exP g i n (j + 1)) := by
 rw [tabM_set _ hj, tabM_set _ hj]
 apply tabM_congr
 intro a b _ _
 unfold exP exG
 by_cases h1 : b < j
 ·rw [if_neg (by omega), if_neg (by omega), if_pos h1, if_pos (show b < j + 1 by omega)]
 ·by_cases h2 : b = j
  ·subst h2
   simp only [Nat.lt_irrefl, if_false, and_true, Nat.lt_succ_self, if_true]
   by_cases h3 : a = i
   ·by_cases h4 : a = n
    ·rw [if_pos h4, if_pos h3, ← h4, ← h3]
    ·rw [if_neg h4, if_pos h3, if_pos h3]
   ·by_cases h4 : a = n
    ·rw [if_pos h4, if_neg h3, if_pos h4]
    ·rw [if_neg h4, if_neg h3, if_neg h3, if_neg h4]
  ·rw [if_neg (by omega), if_neg (by omega), if_neg h1, if_neg (by omega)]
theorem dvP_zero (g : Mx) (n k : Nat) : dvP g n k k = g := by
 funext a b
 unfold dvP
 rw [if_neg (by omega)]
theorem dvP_end {R C : Nat} (g : Mx) (n k : Nat) : tabM R C (dvP g n k C) = tabM R C (dvG g n k) := tabM_congr (fun a b _ hb => by simp [dvP, dvG, hb])
theorem dvP_step {R C : Nat} {g : Mx} {n k j : Nat} (hk : k ≤ j) (hj : j < C) : (tabM R C (dvP g n k j)).set (n * C + j) (divX (g n j) (g n k)) = tabM R C (dvP g n k (j + 1)) := by
 rw [tabM_set _ hj]
 apply tabM_congr
 intro a b _ _
 unfold dvP
 by_cases h1 : a = n
 ·subst h1
  by_cases h2 : b = j
  ·subst h2
   rw [if_pos ⟨rfl, rfl⟩, if_pos ⟨rfl, hk, by omega⟩]
  ·rw [if_neg (by omega)]
   by_cases h3 : k ≤ b ∧ b < j
   ·rw [if_pos ⟨rfl, h3⟩, if_pos ⟨rfl, h3.1, by omega⟩]
   ·rw [if_neg (by omega), if_neg (by omega)]
 ·rw [if_neg (by omega), if_neg (by omega), if_neg (by omega)]
theorem dvP_at {g : Mx} {n k j : Nat} : dvP g n k j n j = g n j := by unfold dvP; rw [if_neg (by omega)]
theorem clP_zero (g : Mx) (n k j : Nat) (hj : j ≤ k) : clP g n k 0 j = g := by
 funext a b
 unfold clP
 rw [if_neg (by omega)]
theorem clP_row {g : Mx} {n k i j : Nat} (b : Nat) : clP g n k i j n b = g n b := by unfold clP; rw [if_neg (by omega)]
theorem clP_at {g : Mx} {n k i j : Nat} : clP g n k i j i j = g i j := by unfold clP; rw [if_neg (by omega)]
theorem clP_start {g : Mx} {n k i : Nat} (b : Nat) : clP g n k i k i b = g i b := by unfold clP; rw [if_neg (by omega)]
theorem clP_skip {R C : Nat} {g : Mx} {n k i : Nat} (h : i = n ∨ nilF (g i k) = true) : tabM R C (clP g n k i k) = tabM R C (clP g n k (i + 1) k) := by
 apply tabM_congr
 intro a b _ _
 unfold clP
 by_cases h1 : a ≠ n ∧ k ≤ b ∧ (a < i ∨ (a = i ∧ b < k))
 ·rw [if_pos h1, if_pos ⟨h1.1, h1.2.1, by omega⟩]
 ·rw [if_neg h1]
  split
  ·next h2 =>
   have h3 : a = i := by omega
   subst h3
   rcases h with h | h
   ·omega
   ·unfold clE; rw [h]; simp
  ·rfl
theorem clP_next {R C : Nat} {g : Mx} {n k i : Nat} : tabM R C (clP g n k i C) = tabM R C (clP g n k (i + 1) k) := by
 apply tabM_congr
 intro a b _ _
 unfold clP
 by_cases h1 : a ≠ n ∧ k ≤ b ∧ (a < i ∨ (a = i ∧ b < C))
 ·rw [if_pos h1, if_pos ⟨h1.1, h1.2.1, by omega⟩]
 ·rw [if_neg h1, if_neg (by omega)]
theorem clP_nil {R C : Nat} {g : Mx} {n k i j : Nat} (h : nilF (g n j) = true) : tabM R C (clP g n k i j) = tabM R C (clP g n k i (j + 1)) := by
 apply tabM_congr
 intro a b _ _
 unfold clP
 by_cases h1 : a ≠ n ∧ k ≤ b ∧ (a < i ∨ (a = i ∧ b < j))
 ·rw [if_pos h1, if_pos ⟨h1.1, h1.2.1, by omega⟩]
 ·rw [if_neg h1]
  split
  ·next h2 =>
   have h3 : b = j := by omega
   subst h3
   unfold clE; rw [h]; simp
  ·rfl
theorem clP_set {R C : Nat} {g : Mx} {n k i j : Nat} (hin : i ≠ n) (hk : k ≤ j) (hj : j < C) (h1 : nilF (g i k) = false) (h2 : nilF (g n j) = false) :
  (tabM R C (clP g n k i j)).set (i * C + j) (subX (g i j) (mulX (g i k) (g n j))) = tabM R C (clP g n k i (j + 1)) := by
 rw [tabM_set _ hj]
 apply tabM_congr
 intro a b _ _
 unfold clP
 by_cases h3 : a = i ∧ b = j
 ·obtain ⟨rfl, rfl⟩ := h3
  rw [if_pos ⟨rfl, rfl⟩, if_pos ⟨hin, hk, by omega⟩]
  unfold clE; rw [h1, h2]; simp
 ·rw [if_neg h3]
  by_cases h4 : a ≠ n ∧ k ≤ b ∧ (a < i ∨ (a = i ∧ b < j))
  ·rw [if_pos h4, if_pos ⟨h4.1, h4.2.1, by omega⟩]
  ·rw [if_neg h4, if_neg (by omega)]
theorem clP_end {R C : Nat} (g : Mx) (n k j : Nat) : tabM R C (clP g n k R j) = tabM R C (clG g n k) := tabM_congr (fun a b ha _ => by
 unfold clP clG
 by_cases h : a ≠ n ∧ k ≤ b
 ·rw [if_pos ⟨h.1, h.2, .inl ha⟩, if_pos h]
 ·rw [if_neg (fun h' => h ⟨h'.1, h'.2.1⟩), if_neg h])
def GoodM (R C : Nat) (g : Mx) : Prop := ∀ a b, a < R → b < C → goodF (g a b)
def OkM (R C : Nat) (g : Mx) : Prop := ∀ a b, a < R → b < C → okF (g a b) = true
theorem OkM.good {R C : Nat} {g : Mx} (h : OkM R C g) : GoodM R C g := fun a b ha hb => .inr (h a b ha hb)
theorem OkM.ex {R C : Nat} {g : Mx} (h : OkM R C g) {i n : Nat} (hi : i < R) (hn : n < R) : OkM R C (exG g i n) := fun a b ha hb => by
 unfold exG
 split
 ·exact h n b hn hb
 ·split
  ·exact h i b hi hb
  ·exact h a b ha hb
theorem OkM.dv {R C : Nat} {g : Mx} (h : OkM R C g) {n k : Nat} (hn : n < R) (hk : k < C) (hp : nilF (g n k) = false) : GoodM R C (dvG g n k) := fun a b ha hb => by
 unfold dvG
 split
 ·exact ok_div (h n b hn hb) (h n k hn hk) hp
 ·exact .inr (h a b ha hb)
theorem good_subX {f g : Fr} (hf : goodF f) (hg : goodF g) : goodF (subX f g) := by
 rcases hf with rfl | hf
 ·exact .inl (add_zeroL _)
 ·rcases hg with rfl | hg
  ·exact .inl (add_zeroR _)
  ·exact ok_sub hf hg
theorem mul_zeroL (g : Fr) : mulX Fr.zero g = Fr.zero := mk_zeroD _ _ _ (by show natI [] * _ = 0; rw [natI_nil, Nat.zero_mul])
theorem mul_zeroR (f : Fr) : mulX f Fr.zero = Fr.zero := mk_zeroD _ _ _ (by show _ * natI [] = 0; rw [natI_nil, Nat.mul_zero])
theorem good_mulX {f g : Fr} (hf : goodF f) (hg : goodF g) : goodF (mulX f g) := by
 rcases hf with rfl | hf
 ·exact .inl (mul_zeroL _)
 ·rcases hg with rfl | hg
  ·exact .inl (mul_zeroR _)
  ·exact ok_mul hf hg
theorem good_clE {R C : Nat} {g : Mx} (h : GoodM R C g) {n k a b : Nat} (hn : n < R) (hk : k < C) (ha : a < R) (hb : b < C) : goodF (clE g n k a b) := by
 unfold clE
 split
 ·exact h a b ha hb
 ·exact good_subX (h a b ha hb) (good_mulX (h a k ha hk) (h n b hn hb))
theorem GoodM.cl {R C : Nat} {g : Mx} (h : GoodM R C g) {n k : Nat} (hn : n < R) (hk : k < C) : GoodM R C (clG g n k) := fun a b ha hb => by
 unfold clG
 split
 ·exact good_clE h hn hk ha hb
 ·exact h a b ha hb
def fineG (R C : Nat) (g : Mx) : Bool := fineV (tabM R C g)
theorem fineG_iff {R C : Nat} {g : Mx} (h : GoodM R C g) : fineG R C g = true ↔ OkM R C g := by
 unfold fineG fineV
 rw [tabM_all]
 constructor
 ·intro h1 a b ha hb
  rw [ok_bad (h a b ha hb)]; exact h1 a b ha hb
 ·intro h1 a b ha hb
  rw [← ok_bad (h a b ha hb)]; exact h1 a b ha hb
structure El where
 g : Mx
 piv : List Nat
 fac : List Fr
def m1F : Fr := ⟨true, [1], [1]⟩
def firstR (g : Mx) (k : Nat) : Nat → Nat → Nat
 | 0, i => i
 | d + 1, i => if nilF (g i k) then firstR g k d (i + 1) else i
theorem firstR_le (g : Mx) (k : Nat) : ∀ d i, i ≤ firstR g k d i ∧ firstR g k d i ≤ i + d
 | 0, i => ⟨Nat.le_refl _, Nat.le_refl _⟩
 | d + 1, i => by
  unfold firstR
  split
  ·have := firstR_le g k d (i + 1); omega
  ·omega
theorem firstR_not (g : Mx) (k : Nat) : ∀ d i, firstR g k d i < i + d → nilF (g (firstR g k d i) k) = false
 | 0, i, h => by unfold firstR at h; omega
 | d + 1, i, h => by
  unfold firstR at h ⊢
  split
  ·next h1 =>
   rw [if_pos h1] at h
   exact firstR_not g k d (i + 1) (by omega)
  ·next h1 => simpa using h1
theorem firstR_nil (g : Mx) (k : Nat) : ∀ d i a, i ≤ a → a < firstR g k d i → nilF (g a k) = true
 | 0, i, a, h1, h2 => by unfold firstR at h2; omega
 | d + 1, i, a, h1, h2 => by
  unfold firstR at h2
  split at h2
  ·next h3 =>
   by_cases h4 : a = i
   ·rw [h4]; exact h3
   ·exact firstR_nil g k d (i + 1) a (by omega) h2
  ·omega
theorem firstR_of {g : Mx} {k R n i : Nat} (h1 : n ≤ i) (h2 : i ≤ R) (h3 : ∀ a, n ≤ a → a < i → nilF (g a k) = true) (h4 : i < R → nilF (g i k) = false) : firstR g k (R - n) n = i := by
 have a1 := firstR_le g k (R - n) n
 rcases Nat.lt_trichotomy (firstR g k (R - n) n) i with h | h | h
 ·have := firstR_not g k (R - n) n (by omega)
  rw [h3 _ a1.1 h] at this; cases this
 ·exact h
 ·have := firstR_nil g k (R - n) n i h1 h
  rw [h4 (by omega)] at this; cases this
def useE (e : El) (i k : Nat) : El :=
 ⟨clG (dvG (exG e.g i e.piv.length) e.piv.length k) e.piv.length k, e.piv ++ [k], e.fac ++ (if i = e.piv.length then [] else [m1F]) ++ [e.g i k]⟩
theorem ex_at (g : Mx) (i n k : Nat) : exG g i n n k = g i k := by
 unfold exG
 split
 ·next h => rw [h]
 ·rw [if_pos rfl]
def stepE (R : Nat) (e : El) (k : Nat) : El :=
 if e.piv.length < R then
  if firstR e.g k (R - e.piv.length) e.piv.length = R then e
  else useE e (firstR e.g k (R - e.piv.length) e.piv.length) k
 else e
def runE (R C : Nat) : Nat → El → El
 | 0, e => e
 | d + 1, e => if fineG R C (stepE R e (C - (d + 1))).g then runE R C d (stepE R e (C - (d + 1))) else stepE R e (C - (d + 1))
theorem stepE_full {R : Nat} {e : El} (h : ¬ e.piv.length < R) (k : Nat) : stepE R e k = e := by unfold stepE; rw [if_neg h]
theorem runE_full {R C : Nat} {e : El} (h : ¬ e.piv.length < R) (hf : fineG R C e.g = true) : ∀ d, runE R C d e = e
 | 0 => rfl
 | d + 1 => by unfold runE; rw [stepE_full h, if_pos hf]; exact runE_full h hf d
theorem useE_good {R C : Nat} {e : El} {i k : Nat} (h : OkM R C e.g) (hi : i < R) (hn : e.piv.length < R) (hk : k < C) (hp : nilF (e.g i k) = false) : GoodM R C (useE e i k).g :=
 ((h.ex hi hn).dv hn hk (by rw [ex_at]; exact hp)).cl hn hk
theorem stepE_good {R C : Nat} {e : El} {k : Nat} (h : OkM R C e.g) (hk : k < C) : GoodM R C (stepE R e k).g := by
 unfold stepE
 split
 ·next hn =>
  split
  ·exact h.good
  ·next hi =>
   have h1 := firstR_le e.g k (R - e.piv.length) e.piv.length
   exact useE_good h (by omega) hn hk (firstR_not _ _ _ _ (by omega))
 ·exact h.good
structure ElOk (R C : Nat) (e : El) (k : Nat) : Prop where
 ok : OkM R C e.g
 len : e.piv.length ≤ R
 fac : ∀ f ∈ e.fac, okF f = true
 lt : ∀ p ∈ e.piv, p < k
 few : e.piv.length ≤ k
 count : e.fac.length ≤ 2 * k
theorem ok_m1 : okF m1F = true := by
 have h := ok_neg (f := ⟨false, [1], [1]⟩) (by
  show ratOk false [1] [1] = true
  rw [← limI_1, ratOk_make (Nat.lt_of_lt_of_le (by decide : 1 < pw 1) (pw_mono (by omega))) (Nat.lt_of_lt_of_le (by decide : 1 < pw 1) (pw_mono (by omega))) (by omega) (by intro h; cases h)]
  exact decide_eq_true (by simp))
 have e : negX ⟨false, [1], [1]⟩ = m1F := by
  unfold negX m1F
  simp only [natI_one]
  rfl
 rw [e] at h; exact h
theorem ElOk.same {R C : Nat} {e : El} {k : Nat} (h : ElOk R C e k) : ElOk R C e (k + 1) := ⟨h.ok, h.len, h.fac, fun p hp => Nat.lt_succ_of_lt (h.lt p hp), Nat.le_succ_of_le h.few, by have := h.count; omega⟩
theorem ElOk.use {R C : Nat} {e : El} {i k : Nat} (h : ElOk R C e k) (hi : i < R) (hn : e.piv.length < R) (hk : k < C) (hp : nilF (e.g i k) = false) (hf : fineG R C (useE e i k).g = true) : ElOk R C (useE e i k) (k + 1) := by
 refine ⟨(fineG_iff (useE_good h.ok hi hn hk hp)).1 hf, by simp [useE]; omega, ?_, ?_, by simp [useE]; exact h.few, ?_⟩
 ·intro f hf
  simp only [useE, List.mem_append, List.mem_singleton] at hf
  rcases hf with (hf | hf) | rfl
  ·exact h.fac f hf
  ·split at hf
   ·simp at hf
   ·rw [List.mem_singleton.1 hf]; exact ok_m1
  ·exact h.ok i k hi hk
 ·intro p hp
  simp only [useE, List.mem_append, List.mem_singleton] at hp
  rcases hp with hp | rfl
  ·exact Nat.lt_succ_of_lt (h.lt p hp)
  ·exact Nat.lt_succ_self _
 ·have := h.count
  simp only [useE, List.length_append]
  split <;> simp <;> omega
theorem ElOk.step {R C : Nat} {e : El} {k : Nat} (h : ElOk R C e k) (hk : k < C) (hf : fineG R C (stepE R e k).g = true) : ElOk R C (stepE R e k) (k + 1) := by
 unfold stepE at hf ⊢
 split
 ·next hn =>
  rw [if_pos hn] at hf
  split
  ·exact h.same
  ·next hi =>
   rw [if_neg hi] at hf
   have h1 := firstR_le e.g k (R - e.piv.length) e.piv.length
   exact h.use (by omega) hn hk (firstR_not _ _ _ _ (by omega)) hf
 ·exact h.same
theorem runE_ok {R C : Nat} : ∀ d e, d ≤ C → ElOk R C e (C - d) → GoodM R C (runE R C d e).g ∧ (fineG R C (runE R C d e).g = true → ElOk R C (runE R C d e) C)
 | 0, e, _, h => ⟨h.ok.good, fun _ => h⟩
 | d + 1, e, hd, h => by
  unfold runE
  have hk : C - (d + 1) < C := by omega
  split
  ·next hf =>
   have := h.step hk hf
   rw [show C - (d + 1) + 1 = C - d by omega] at this
   exact runE_ok d _ (by omega) this
  ·next hf => exact ⟨stepE_good h.ok hk, fun h => absurd h hf⟩
def startE (L : List Fr) (C : Nat) : El := ⟨elM L C, [], []⟩
theorem start_ok {R C : Nat} {L : List Fr} (hL : L.length = R * C) (h : L.all okF = true) : ElOk R C (startE L C) 0 :=
 ⟨fun a b ha hb => by
  show okF (elM L C a b) = true
  rw [el_at (by rw [hL]; exact at_lt ha hb)]
  exact List.all_eq_true.1 h _ (List.getElem_mem _), Nat.zero_le _, fun f hf => by simp [startE] at hf, fun p hp => by simp [startE] at hp, Nat.le_refl _, Nat.le_refl _⟩
end Go.Proofs.YtlepgkkpopjgoaaGreat
namespace Go.Proofs.YtlepgkkpopjgoaaGreat
open Go.RowKit Go.WideShapes Go.ChangeShapes
set_option linter.unusedVariables false
set_option linter.unusedSimpArgs false
theorem fr_forms {w : World} {v d : Value} {f : Fr} (h : RowR w v f.mag d f.den) : ∃ a c e k, v = .slice a f.mag.length c ∧ d = .slice e f.den.length k := by
 obtain ⟨⟨a, c, rfl, _⟩, ⟨e, k, rfl, _⟩⟩ := h
 exact ⟨a, c, e, k, rfl, rfl⟩
set_option maxRecDepth 100000 in
set_option maxHeartbeats 2000000 in
theorem impl_diffF (f g : Fr) (hf : okF f = true) (hg : okF g = true) (v d v' d' : Value) (w : World) (h0 : RowR w v f.mag d f.den) (h1 : RowR w v' g.mag d' g.den) :
  Calls Tryz.prog 184 #[.agg #[.bool f.neg, v, d], .agg #[.bool g.neg, v', d']] w fun r w' => ∃ x y, r = .returned (.agg #[.bool (subX f g).neg, x, y]) ∧ OwnR w' w.heap.size x (subX f g).mag y (subX f g).den ∧ Below w.heap.size w w' := by
 have H0 := Lib.hid h0
 have H1 := Lib.hid h1
 obtain ⟨a0, c0, e0, k0, rfl, rfl⟩ := fr_forms h0
 obtain ⟨a1, c1, e1, k1, rfl, rfl⟩ := fr_forms h1
 clear h0 h1
 have KN := Lib.hid (impl_oppF g hg)
 have KA := Lib.hid (impl_plusF f (negX g) hf (ok_neg hg))
 clear hf hg
 unfold subX
 obtain ⟨nx, hnx⟩ : ∃ n, f.mag.length = n := ⟨_, rfl⟩
 rw [hnx] at H0 ⊢
 clear hnx
 obtain ⟨nd, hnd⟩ : ∃ n, f.den.length = n := ⟨_, rfl⟩
 rw [hnd] at H0 ⊢
 clear hnd
 obtain ⟨ny, hny⟩ : ∃ n, g.mag.length = n := ⟨_, rfl⟩
 rw [hny] at H1 ⊢
 clear hny
 obtain ⟨ne, hne⟩ : ∃ n, g.den.length = n := ⟨_, rfl⟩
 rw [hne] at H1 ⊢
 clear hne
 go_enter Tryz.func184, Tryz.ntmps184
 go_wp2_with fail
 obtain ⟨W0, hW0⟩ : ∃ x, x = (((w.alloc (.cells #[.bool f.neg, .slice a0 nx c0, .slice e0 nd k0] 34)).alloc (.cells #[.bool g.neg, .slice a1 ny c1, .slice e1 ne k1] 34)).alloc (.cells #[.bool false, .slice none 0 0, .slice none 0 0] 34)) := ⟨_, rfl⟩
 have B := Lib.hid (show Below w.heap.size w W0 by rw [hW0]; exact ((((Below.refl _ _).alloc (Nat.le_refl _) _).alloc (by simp) _).alloc (by simp; omega) _))
 have D_x := Lib.hid (rx_at (show Rx W0 _ 34 (f.neg) (.slice a0 nx c0) (.slice e0 nd k0) by rw [hW0]; exact ((Rx.new _ _ _ _ _).alloc _).alloc _) (show w.heap.size = _ by simp))
 have D_y := Lib.hid (rx_at (show Rx W0 _ 34 (g.neg) (.slice a1 ny c1) (.slice e1 ne k1) by rw [hW0]; exact (Rx.new _ _ _ _ _).alloc _) (show (w.heap.size + 1) = _ by simp))
 have D_r := Lib.hid (rx_at (show Rx W0 _ 34 (false) (.slice none 0 0) (.slice none 0 0) by rw [hW0]; exact Rx.new _ _ _ _ _) (show (w.heap.size + 1 + 1) = _ by simp))
 have SZ := Lib.hid (show W0.heap.size = w.heap.size + 1 + 1 + 1 by rw [hW0]; simp)
 rw [← hW0]
 clear hW0
 have BB := Lib.hid (Below.refl W0.heap.size W0)
 have K_n := Lib.hid (fun (W : World) (hW : Below W0.heap.size W0 W) => pre_rat (KN.out _ _ W ((H1.out.below B.out).below hW)) hW)
 have K_q := Lib.hid (fun (W : World) (hW : Below W0.heap.size W0 W) (vv dd : Value) (hr : RowR W vv (negX g).mag dd (negX g).den) => pre_rat (KA.out _ _ vv dd W ((H0.out.below B.out).below hW) hr) hW)
 have c0_x := (D_x.out.below BB.out).c0
 have c1_x := (D_x.out.below BB.out).c1
 have c2_x := (D_x.out.below BB.out).c2
 have c0_y := (D_y.out.below BB.out).c0
 have c1_y := (D_y.out.below BB.out).c1
 have c2_y := (D_y.out.below BB.out).c2
 have HS := Lib.hid (show ∀ W : World, Below W0.heap.size W0 W → (W.cell? ⟨w.heap.size, 0, none⟩ = some (.bool f.neg) ∧ W.cell? ⟨w.heap.size, 1, none⟩ = some (.slice a0 nx c0) ∧ W.cell? ⟨w.heap.size, 2, none⟩ = some (.slice e0 nd k0) ∧ W.cell? ⟨(w.heap.size + 1), 0, none⟩ = some (.bool g.neg) ∧ W.cell? ⟨(w.heap.size + 1), 1, none⟩ = some (.slice a1 ny c1) ∧ W.cell? ⟨(w.heap.size + 1), 2, none⟩ = some (.slice e1 ne k1)) from fun W hW => ⟨(hW.cell (p := ⟨w.heap.size, 0, none⟩) (D_x.out.below BB.out).lt).trans c0_x, (hW.cell (p := ⟨w.heap.size, 1, none⟩) (D_x.out.below BB.out).lt).trans c1_x, (hW.cell (p := ⟨w.heap.size, 2, none⟩) (D_x.out.below BB.out).lt).trans c2_x, (hW.cell (p := ⟨(w.heap.size + 1), 0, none⟩) (D_y.out.below BB.out).lt).trans c0_y, (hW.cell (p := ⟨(w.heap.size + 1), 1, none⟩) (D_y.out.below BB.out).lt).trans c1_y, (hW.cell (p := ⟨(w.heap.size + 1), 2, none⟩) (D_y.out.below BB.out).lt).trans c2_y⟩)
 have lt_x := (D_x.out.below BB.out).lt
 have lt_y := (D_y.out.below BB.out).lt
 have c0_r := (D_r.out.below BB.out).c0
 have c1_r := (D_r.out.below BB.out).c1
 have c2_r := (D_r.out.below BB.out).c2
 have f0_r := (D_r.out.below BB.out).f 0
 have f1_r := (D_r.out.below BB.out).f 1
 have f2_r := (D_r.out.below BB.out).f 2
 have HF := Lib.hid (show ∀ W : World, Below W0.heap.size W0 W → (W.cell? ⟨(w.heap.size + 1 + 1), 0, none⟩ = some (.bool false) ∧ W.cell? ⟨(w.heap.size + 1 + 1), 1, none⟩ = some (.slice none 0 0) ∧ W.cell? ⟨(w.heap.size + 1 + 1), 2, none⟩ = some (.slice none 0 0) ∧ W.frozen? ⟨(w.heap.size + 1 + 1), 0, none⟩ = false ∧ W.frozen? ⟨(w.heap.size + 1 + 1), 1, none⟩ = false ∧ W.frozen? ⟨(w.heap.size + 1 + 1), 2, none⟩ = false) from fun W hW => ⟨(hW.cell (p := ⟨(w.heap.size + 1 + 1), 0, none⟩) (D_r.out.below BB.out).lt).trans c0_r, (hW.cell (p := ⟨(w.heap.size + 1 + 1), 1, none⟩) (D_r.out.below BB.out).lt).trans c1_r, (hW.cell (p := ⟨(w.heap.size + 1 + 1), 2, none⟩) (D_r.out.below BB.out).lt).trans c2_r, (hW.frozen (p := ⟨(w.heap.size + 1 + 1), 0, none⟩) (D_r.out.below BB.out).lt).trans f0_r, (hW.frozen (p := ⟨(w.heap.size + 1 + 1), 1, none⟩) (D_r.out.below BB.out).lt).trans f1_r, (hW.frozen (p := ⟨(w.heap.size + 1 + 1), 2, none⟩) (D_r.out.below BB.out).lt).trans f2_r⟩)
 go_region_held3 (fun w' => w'.cell? ⟨w.heap.size, 0, none⟩ = some (.bool f.neg) ∧ w'.cell? ⟨w.heap.size, 1, none⟩ = some (.slice a0 nx c0) ∧ w'.cell? ⟨w.heap.size, 2, none⟩ = some (.slice e0 nd k0) ∧ w'.cell? ⟨(w.heap.size + 1), 0, none⟩ = some (.bool g.neg) ∧ w'.cell? ⟨(w.heap.size + 1), 1, none⟩ = some (.slice a1 ny c1) ∧ w'.cell? ⟨(w.heap.size + 1), 2, none⟩ = some (.slice e1 ne k1)) (first | exact HS.out _ (by first | with_reducible exact Below.refl _ _ | with_reducible exact (Below.refl _ _).drew | with_reducible exact bb_n | with_reducible exact bb_q | fail) | exact ⟨(cell_far3 (show w.heap.size ≠ (w.heap.size + 1 + 1) from by omega) _ _ _).trans ((HS.out _ (by first | with_reducible exact Below.refl _ _ | with_reducible exact (Below.refl _ _).drew | with_reducible exact bb_n | with_reducible exact bb_q | fail)).1), (cell_far3 (show w.heap.size ≠ (w.heap.size + 1 + 1) from by omega) _ _ _).trans ((HS.out _ (by first | with_reducible exact Below.refl _ _ | with_reducible exact (Below.refl _ _).drew | with_reducible exact bb_n | with_reducible exact bb_q | fail)).2.1), (cell_far3 (show w.heap.size ≠ (w.heap.size + 1 + 1) from by omega) _ _ _).trans ((HS.out _ (by first | with_reducible exact Below.refl _ _ | with_reducible exact (Below.refl _ _).drew | with_reducible exact bb_n | with_reducible exact bb_q | fail)).2.2.1), (cell_far3 (show (w.heap.size + 1) ≠ (w.heap.size + 1 + 1) from by omega) _ _ _).trans ((HS.out _ (by first | with_reducible exact Below.refl _ _ | with_reducible exact (Below.refl _ _).drew | with_reducible exact bb_n | with_reducible exact bb_q | fail)).2.2.2.1), (cell_far3 (show (w.heap.size + 1) ≠ (w.heap.size + 1 + 1) from by omega) _ _ _).trans ((HS.out _ (by first | with_reducible exact Below.refl _ _ | with_reducible exact (Below.refl _ _).drew | with_reducible exact bb_n | with_reducible exact bb_q | fail)).2.2.2.2.1), (cell_far3 (show (w.heap.size + 1) ≠ (w.heap.size + 1 + 1) from by omega) _ _ _).trans ((HS.out _ (by first | with_reducible exact Below.refl _ _ | with_reducible exact (Below.refl _ _).drew | with_reducible exact bb_n | with_reducible exact bb_q | fail)).2.2.2.2.2)⟩)
  (first
   | (go_at_call 149; refine (K_q.out _ (by first | with_reducible exact Below.refl _ _ | with_reducible exact (Below.refl _ _).drew | with_reducible exact bb_n | with_reducible exact bb_q | fail) _ _ (by first | with_reducible exact u_n.row)).mono ?_; rintro e w_q ⟨v_q, d_q, rfl, u_q, lo_q, bw_q, bb_q⟩; obtain ⟨a_q, c_q, e_q, f_q, rfl, rfl⟩ := u_q.slices; (try first | with_reducible (have u_n := u_n.below bw_q)); obtain ⟨s0, s1, s2, t0, t1, t2⟩ := HF.out _ bb_q)
   | (go_at_call 76; refine (K_n.out _ (by first | with_reducible exact Below.refl _ _ | with_reducible exact (Below.refl _ _).drew | with_reducible exact bb_n | with_reducible exact bb_q | fail)).mono ?_; rintro e w_n ⟨v_n, d_n, rfl, u_n, lo_n, bw_n, bb_n⟩; obtain ⟨a_n, c_n, e_n, f_n, rfl, rfl⟩ := u_n.slices; (try first | with_reducible (have u_q := u_q.below bw_n)); obtain ⟨s0, s1, s2, t0, t1, t2⟩ := HF.out _ bb_n))
 all_goals (have D9 := D_r.out.below (BB.out.trans (bb_q.mono BB.out.size)); obtain ⟨e1, e2⟩ := rat_end (b' := (addX f (negX g)).neg) (B.out.trans (bb_q.mono B.out.size)) D9 (OwnR.base (B' := W0.heap.size) u_q BB.out.size) (by decide) (by have := SZ.out; omega) (by omega) (.slice a_q (addX f (negX g)).mag.length c_q) (.slice e_q (addX f (negX g)).den.length f_q); have D8 := Rx.set3 (b' := (addX f (negX g)).neg) (v' := .slice a_q (addX f (negX g)).mag.length c_q) (d' := .slice e_q (addX f (negX g)).den.length f_q) D9; have hc0 := D8.c0; have hc1 := D8.c1; have hc2 := D8.c2; go_wp2; exact bodyPost_ret (v := .agg #[.bool ((addX f (negX g)).neg), .slice a_q (addX f (negX g)).mag.length c_q, .slice e_q (addX f (negX g)).den.length f_q]) (by simp [results, Tryz.results184, go_sem, hc0, hc1, hc2]) rfl ⟨_, _, rfl, e1, e2⟩)
end Go.Proofs.YtlepgkkpopjgoaaGreat
namespace Go.Proofs.YtlepgkkpopjgoaaGreat
open Go.RowKit Go.WideShapes Go.ChangeShapes
set_option linter.unusedVariables false
set_option linter.unusedSimpArgs false
set_option maxHeartbeats 4000000 in
theorem spec_divA (b0 : Bool) (v0 : Value) (x : Nat) (d0 : Value) (d : Nat) (b1 : Bool) (v1 : Value) (y : Nat) (d1 : Value) (e : Nat) (w : World) (h0 : RowR w v0 (limI x) d0 (limI d)) (h1 : RowR w v1 (limI y) d1 (limI e))
  (hx : x < pw 24) (hd : d < pw 24) (hy : y < pw 24) (he : e < pw 24) :
  Calls Tryz.prog 123 #[.agg #[.bool b0, v0, d0], .agg #[.bool b1, v1, d1]] w fun r w' => ∃ v dd, r = .returned (.agg #[.bool (mkB (!(b0 == b1)) (lowX (x * e) (d * y)) (lowD (x * e) (d * y))), v, dd]) ∧ OwnR w' w.heap.size v (mkZ (lowX (x * e) (d * y)) (lowD (x * e) (d * y))) dd (mkD (lowX (x * e) (d * y)) (lowD (x * e) (d * y))) ∧ Below w.heap.size w w' := by
 have P1 := Lib.hid (Nat.lt_trans (mul24 hx he) (pw_lt (by omega : 48 < 60)))
 have P2 := Lib.hid (Nat.lt_trans (mul24 hd hy) (pw_lt (by omega : 48 < 60)))
 have B_x := Lib.hid ((nlen_le_iff _ _).2 hx)
 have B_d := Lib.hid ((nlen_le_iff _ _).2 hd)
 have B_y := Lib.hid ((nlen_le_iff _ _).2 hy)
 have B_e := Lib.hid ((nlen_le_iff _ _).2 he)
 clear hx hd hy he
 have RA_x := Lib.hid h0.1
 have RA_d := Lib.hid h0.2
 obtain ⟨⟨a0, c0, rfl, z1, z2, z3⟩, ⟨e0, f0, rfl, z4, z5, z6⟩⟩ := h0
 clear z1 z2 z3 z4 z5 z6
 have RA_y := Lib.hid h1.1
 have RA_e := Lib.hid h1.2
 obtain ⟨⟨a1, c1, rfl, z1, z2, z3⟩, ⟨e1, f1, rfl, z4, z5, z6⟩⟩ := h1
 clear z1 z2 z3 z4 z5 z6
 have L_x := Lib.hid (limI_length x)
 rw [limI_length] at RA_x
 try rw [limI_length x]
 obtain ⟨nx, hnx⟩ : ∃ n, nlen x = n := ⟨_, rfl⟩
 rw [hnx] at RA_x L_x
 try rw [hnx]
 have N_x := Lib.hid hnx
 clear hnx
 have L_d := Lib.hid (limI_length d)
 rw [limI_length] at RA_d
 try rw [limI_length d]
 obtain ⟨nd, hnd⟩ : ∃ n, nlen d = n := ⟨_, rfl⟩
 rw [hnd] at RA_d L_d
 try rw [hnd]
 have N_d := Lib.hid hnd
 clear hnd
 have L_y := Lib.hid (limI_length y)
 rw [limI_length] at RA_y
 try rw [limI_length y]
 obtain ⟨ny, hny⟩ : ∃ n, nlen y = n := ⟨_, rfl⟩
 rw [hny] at RA_y L_y
 try rw [hny]
 have N_y := Lib.hid hny
 clear hny
 have L_e := Lib.hid (limI_length e)
 rw [limI_length] at RA_e
 try rw [limI_length e]
 obtain ⟨ne, hne⟩ : ∃ n, nlen e = n := ⟨_, rfl⟩
 rw [hne] at RA_e L_e
 try rw [hne]
 have N_e := Lib.hid hne
 clear hne
 obtain ⟨SS, hSS⟩ : ∃ s, (!(b0 == b1)) = s := ⟨_, rfl⟩
 obtain ⟨XX, hXX⟩ : ∃ s, (lowX (x * e) (d * y)) = s := ⟨_, rfl⟩
 obtain ⟨DD, hDD⟩ : ∃ s, (lowD (x * e) (d * y)) = s := ⟨_, rfl⟩
 rw [hSS, hXX, hDD]
 have HE := Lib.hid (And.intro hXX hDD)
 clear hXX hDD
 go_enter Tryz.func123, Tryz.ntmps123
 go_wp2_with fail
 obtain ⟨W0, hW0⟩ : ∃ x, x = (((w.alloc (.cells #[.bool b0, .slice a0 nx c0, .slice e0 nd f0] 34)).alloc (.cells #[.bool b1, .slice a1 ny c1, .slice e1 ne f1] 34)).alloc (.cells #[.bool false, .slice none 0 0, .slice none 0 0] 34)) := ⟨_, rfl⟩
 have B := Lib.hid (show Below w.heap.size w W0 by rw [hW0]; exact ((((Below.refl _ _).alloc (Nat.le_refl _) _).alloc (by simp) _).alloc (by simp; omega) _))
 have D_x := Lib.hid (rx_at (show Rx W0 _ 34 (b0) (.slice a0 nx c0) (.slice e0 nd f0) by rw [hW0]; exact ((Rx.new _ _ _ _ _).alloc _).alloc _) (show w.heap.size = _ by simp))
 have D_y := Lib.hid (rx_at (show Rx W0 _ 34 (b1) (.slice a1 ny c1) (.slice e1 ne f1) by rw [hW0]; exact (Rx.new _ _ _ _ _).alloc _) (show (w.heap.size + 1) = _ by simp))
 have D_r := Lib.hid (rx_at (show Rx W0 _ 34 (false) (.slice none 0 0) (.slice none 0 0) by rw [hW0]; exact Rx.new _ _ _ _ _) (show (w.heap.size + 1 + 1) = _ by simp))
 have SZ := Lib.hid (show W0.heap.size = w.heap.size + 1 + 1 + 1 by rw [hW0]; simp)
 rw [← hW0]
 clear hW0
 have BB := Lib.hid (Below.refl W0.heap.size W0)
 have K_a := Lib.hid (fun (W : World) (hW : Below W0.heap.size W0 W) => pre_own (R := fun v => v) (spec_mulAny _ _ x e W (rowOf_below (rowOf_below RA_x.out B.out) hW) (rowOf_below (rowOf_below RA_e.out B.out) hW) (by have := B_x.out; omega) (by have := B_e.out; omega)) hW)
 have K_b := Lib.hid (fun (W : World) (hW : Below W0.heap.size W0 W) => pre_own (R := fun v => v) (spec_mulAny _ _ d y W (rowOf_below (rowOf_below RA_d.out B.out) hW) (rowOf_below (rowOf_below RA_y.out B.out) hW) (by have := B_d.out; omega) (by have := B_y.out; omega)) hW)
 have K_q := Lib.hid (fun (W : World) (hW : Below W0.heap.size W0 W) (vv uu : Value) (hr : RowOf iV W vv (limI (x * e))) (hs : RowOf iV W uu (limI (d * y))) => pre_rat ((by have h := spec_low SS vv (x * e) uu (d * y) W hr hs P1.out P2.out; rw [HE.out.1, HE.out.2] at h; exact h)) hW)
 have c0_x := (D_x.out.below BB.out).c0
 have c1_x := (D_x.out.below BB.out).c1
 have c2_x := (D_x.out.below BB.out).c2
 have c0_y := (D_y.out.below BB.out).c0
 have c1_y := (D_y.out.below BB.out).c1
 have c2_y := (D_y.out.below BB.out).c2
 have HS := Lib.hid (show ∀ W : World, Below W0.heap.size W0 W → (W.cell? ⟨w.heap.size, 0, none⟩ = some (.bool b0) ∧ W.cell? ⟨w.heap.size, 1, none⟩ = some (.slice a0 nx c0) ∧ W.cell? ⟨w.heap.size, 2, none⟩ = some (.slice e0 nd f0) ∧ W.cell? ⟨(w.heap.size + 1), 0, none⟩ = some (.bool b1) ∧ W.cell? ⟨(w.heap.size + 1), 1, none⟩ = some (.slice a1 ny c1) ∧ W.cell? ⟨(w.heap.size + 1), 2, none⟩ = some (.slice e1 ne f1)) from fun W hW => ⟨(hW.cell (p := ⟨w.heap.size, 0, none⟩) (D_x.out.below BB.out).lt).trans c0_x, (hW.cell (p := ⟨w.heap.size, 1, none⟩) (D_x.out.below BB.out).lt).trans c1_x, (hW.cell (p := ⟨w.heap.size, 2, none⟩) (D_x.out.below BB.out).lt).trans c2_x, (hW.cell (p := ⟨(w.heap.size + 1), 0, none⟩) (D_y.out.below BB.out).lt).trans c0_y, (hW.cell (p := ⟨(w.heap.size + 1), 1, none⟩) (D_y.out.below BB.out).lt).trans c1_y, (hW.cell (p := ⟨(w.heap.size + 1), 2, none⟩) (D_y.out.below BB.out).lt).trans c2_y⟩)
 have lt_x := (D_x.out.below BB.out).lt
 have lt_y := (D_y.out.below BB.out).lt
 have c0_r := (D_r.out.below BB.out).c0
 have c1_r := (D_r.out.below BB.out).c1
 have c2_r := (D_r.out.below BB.out).c2
 have f0_r := (D_r.out.below BB.out).f 0
 have f1_r := (D_r.out.below BB.out).f 1
 have f2_r := (D_r.out.below BB.out).f 2
 have HF := Lib.hid (show ∀ W : World, Below W0.heap.size W0 W → (W.cell? ⟨(w.heap.size + 1 + 1), 0, none⟩ = some (.bool false) ∧ W.cell? ⟨(w.heap.size + 1 + 1), 1, none⟩ = some (.slice none 0 0) ∧ W.cell? ⟨(w.heap.size + 1 + 1), 2, none⟩ = some (.slice none 0 0) ∧ W.frozen? ⟨(w.heap.size + 1 + 1), 0, none⟩ = false ∧ W.frozen? ⟨(w.heap.size + 1 + 1), 1, none⟩ = false ∧ W.frozen? ⟨(w.heap.size + 1 + 1), 2, none⟩ = false) from fun W hW => ⟨(hW.cell (p := ⟨(w.heap.size + 1 + 1), 0, none⟩) (D_r.out.below BB.out).lt).trans c0_r, (hW.cell (p := ⟨(w.heap.size + 1 + 1), 1, none⟩) (D_r.out.below BB.out).lt).trans c1_r, (hW.cell (p := ⟨(w.heap.size + 1 + 1), 2, none⟩) (D_r.out.below BB.out).lt).trans c2_r, (hW.frozen (p := ⟨(w.heap.size + 1 + 1), 0, none⟩) (D_r.out.below BB.out).lt).trans f0_r, (hW.frozen (p := ⟨(w.heap.size + 1 + 1), 1, none⟩) (D_r.out.below BB.out).lt).trans f1_r, (hW.frozen (p := ⟨(w.heap.size + 1 + 1), 2, none⟩) (D_r.out.below BB.out).lt).trans f2_r⟩)
 go_region_held3 (fun w' => w'.cell? ⟨w.heap.size, 0, none⟩ = some (.bool b0) ∧ w'.cell? ⟨w.heap.size, 1, none⟩ = some (.slice a0 nx c0) ∧ w'.cell? ⟨w.heap.size, 2, none⟩ = some (.slice e0 nd f0) ∧ w'.cell? ⟨(w.heap.size + 1), 0, none⟩ = some (.bool b1) ∧ w'.cell? ⟨(w.heap.size + 1), 1, none⟩ = some (.slice a1 ny c1) ∧ w'.cell? ⟨(w.heap.size + 1), 2, none⟩ = some (.slice e1 ne f1)) (first | exact HS.out _ (by first | with_reducible exact Below.refl _ _ | with_reducible exact (Below.refl _ _).drew | with_reducible exact bb_a | with_reducible exact bb_b | with_reducible exact bb_q | fail) | exact ⟨(cell_far3 (show w.heap.size ≠ (w.heap.size + 1 + 1) from by omega) _ _ _).trans ((HS.out _ (by first | with_reducible exact Below.refl _ _ | with_reducible exact (Below.refl _ _).drew | with_reducible exact bb_a | with_reducible exact bb_b | with_reducible exact bb_q | fail)).1), (cell_far3 (show w.heap.size ≠ (w.heap.size + 1 + 1) from by omega) _ _ _).trans ((HS.out _ (by first | with_reducible exact Below.refl _ _ | with_reducible exact (Below.refl _ _).drew | with_reducible exact bb_a | with_reducible exact bb_b | with_reducible exact bb_q | fail)).2.1), (cell_far3 (show w.heap.size ≠ (w.heap.size + 1 + 1) from by omega) _ _ _).trans ((HS.out _ (by first | with_reducible exact Below.refl _ _ | with_reducible exact (Below.refl _ _).drew | with_reducible exact bb_a | with_reducible exact bb_b | with_reducible exact bb_q | fail)).2.2.1), (cell_far3 (show (w.heap.size + 1) ≠ (w.heap.size + 1 + 1) from by omega) _ _ _).trans ((HS.out _ (by first | with_reducible exact Below.refl _ _ | with_reducible exact (Below.refl _ _).drew | with_reducible exact bb_a | with_reducible exact bb_b | with_reducible exact bb_q | fail)).2.2.2.1), (cell_far3 (show (w.heap.size + 1) ≠ (w.heap.size + 1 + 1) from by omega) _ _ _).trans ((HS.out _ (by first | with_reducible exact Below.refl _ _ | with_reducible exact (Below.refl _ _).drew | with_reducible exact bb_a | with_reducible exact bb_b | with_reducible exact bb_q | fail)).2.2.2.2.1), (cell_far3 (show (w.heap.size + 1) ≠ (w.heap.size + 1 + 1) from by omega) _ _ _).trans ((HS.out _ (by first | with_reducible exact Below.refl _ _ | with_reducible exact (Below.refl _ _).drew | with_reducible exact bb_a | with_reducible exact bb_b | with_reducible exact bb_q | fail)).2.2.2.2.2)⟩)
  (first
   | (go_at_call 126; refine (K_q.out _ (by first | with_reducible exact Below.refl _ _ | with_reducible exact (Below.refl _ _).drew | with_reducible exact bb_a | with_reducible exact bb_b | with_reducible exact bb_q | fail) _ _ (by first | with_reducible exact o_a.row) (by first | with_reducible exact o_b.row)).mono ?_; rintro e w_q ⟨v_q, d_q, rfl, u_q, lo_q, bw_q, bb_q⟩; obtain ⟨a_q, c_q, e_q, f_q, rfl, rfl⟩ := u_q.slices; (try first | with_reducible (have o_a := o_a.below bw_q)); (try first | with_reducible (have o_b := o_b.below bw_q)); obtain ⟨s0, s1, s2, t0, t1, t2⟩ := HF.out _ bb_q)
   | (go_at_call 127; with_reducible refine (K_b.out _ (by first | with_reducible exact Below.refl _ _ | with_reducible exact (Below.refl _ _).drew | with_reducible exact bb_a | with_reducible exact bb_b | with_reducible exact bb_q | fail)).mono ?_; rintro e w_b ⟨v_b, rfl, o_b, lo_b, bw_b, bb_b⟩; obtain ⟨a_b, c_b, rfl⟩ := o_b.slice; (try first | with_reducible (have o_a := o_a.below bw_b)); (try first | with_reducible (have u_q := u_q.below bw_b)); obtain ⟨s0, s1, s2, t0, t1, t2⟩ := HF.out _ bb_b)
   | (go_at_call 127; with_reducible refine (K_a.out _ (by first | with_reducible exact Below.refl _ _ | with_reducible exact (Below.refl _ _).drew | with_reducible exact bb_a | with_reducible exact bb_b | with_reducible exact bb_q | fail)).mono ?_; rintro e w_a ⟨v_a, rfl, o_a, lo_a, bw_a, bb_a⟩; obtain ⟨a_a, c_a, rfl⟩ := o_a.slice; (try first | with_reducible (have o_b := o_b.below bw_a)); (try first | with_reducible (have u_q := u_q.below bw_a)); obtain ⟨s0, s1, s2, t0, t1, t2⟩ := HF.out _ bb_a))
 all_goals (have D9 := D_r.out.below (BB.out.trans (bb_q.mono BB.out.size)); obtain ⟨e1, e2⟩ := rat_end (b' := mkB SS XX DD) (B.out.trans (bb_q.mono B.out.size)) D9 (OwnR.base (B' := W0.heap.size) u_q BB.out.size) (by decide) (by have := SZ.out; omega) (by omega) (.slice a_q (mkZ XX DD).length c_q) (.slice e_q (mkD XX DD).length f_q); have D8 := Rx.set3 (b' := mkB SS XX DD) (v' := .slice a_q (mkZ XX DD).length c_q) (d' := .slice e_q (mkD XX DD).length f_q) D9; have hc0 := D8.c0; have hc1 := D8.c1; have hc2 := D8.c2; go_wp2; exact bodyPost_ret (v := .agg #[.bool (mkB SS XX DD), .slice a_q (mkZ XX DD).length c_q, .slice e_q (mkD XX DD).length f_q]) (by simp [results, Tryz.results123, go_sem, hc0, hc1, hc2]) rfl ⟨_, _, rfl, e1, e2⟩)
theorem spec_divF (f g : Fr) (hf : Small f) (hg : Small g) (v d v' d' : Value) (w : World) (h0 : RowR w v f.mag d f.den) (h1 : RowR w v' g.mag d' g.den) :
  Calls Tryz.prog 123 #[.agg #[.bool f.neg, v, d], .agg #[.bool g.neg, v', d']] w fun r w' => ∃ x y, r = .returned (.agg #[.bool (divX f g).neg, x, y]) ∧ OwnR w' w.heap.size x (divX f g).mag y (divX f g).den ∧ Below w.heap.size w w' := by
 obtain ⟨b, m, e⟩ := f
 obtain ⟨b', m', e'⟩ := g
 obtain ⟨x, k, rfl, rfl, hx, hk⟩ := hf
 obtain ⟨x', k', rfl, rfl, hx', hk'⟩ := hg
 simp only [divX, natI_limI]
 exact spec_divA b v x d k b' v' x' d' k' w h0 h1 hx hk hx' hk'
theorem spec_nilF (f : Fr) (v d : Value) (w : World) (h : RowR w v f.mag d f.den) :
  Calls Tryz.prog 122 #[.agg #[.bool f.neg, v, d]] w fun r w' => r = .returned (.bool (nilF f)) ∧ Below w.heap.size w w' := spec_nilR f.neg v f.mag d f.den w h
theorem impl_isZero (f : Fr) (v d : Value) (w : World) (h : RowR w v f.mag d f.den) :
  Calls Tryz.prog 139 #[.agg #[.bool f.neg, v, d]] w fun r w' => r = .returned (.bool (nilF f)) ∧ Below w.heap.size w w' := by
 obtain ⟨a, c, e, k, rfl, rfl, h1, h2⟩ := rowR_len h
 go_enter Tryz.func139, Tryz.ntmps139
 go_wp2
 go_ret
 exact ⟨congrArg (fun q => Ending.returned (Value.bool q)) (Bool.eq_iff_iff.2 (by simp [nilF])), (Below.refl w.heap.size w).alloc (Nat.le_refl _) _⟩
theorem impl_invF (f : Fr) (v d : Value) (w : World) (h : RowR w v f.mag d f.den) :
  Calls Tryz.prog 164 #[.agg #[.bool f.neg, v, d]] w fun r w' => r = .returned (.agg #[.bool (invX f).neg, d, v]) ∧ Below w.heap.size w w' := by
 obtain ⟨a, c, e, k, rfl, rfl, h1, h2⟩ := rowR_len h
 exact impl_inverse _ _ _ _ _ _ _ w
theorem small_neg {f : Fr} (h : Small f) : Small (negX f) := by
 obtain ⟨x, d, h1, h2, h3, h4⟩ := h
 exact ⟨x, d, h1, h2, h3, h4⟩
set_option maxRecDepth 100000 in
set_option maxHeartbeats 2000000 in
theorem spec_subS (f g : Fr) (hf : Small f) (hg : Small g) (v d v' d' : Value) (w : World) (h0 : RowR w v f.mag d f.den) (h1 : RowR w v' g.mag d' g.den) :
  Calls Tryz.prog 155 #[.agg #[.bool f.neg, v, d], .agg #[.bool g.neg, v', d']] w fun r w' => ∃ x y, r = .returned (.agg #[.bool (subX f g).neg, x, y]) ∧ OwnR w' w.heap.size x (subX f g).mag y (subX f g).den ∧ Below w.heap.size w w' := by
 have H0 := Lib.hid h0
 have H1 := Lib.hid h1
 obtain ⟨a0, c0, e0, k0, rfl, rfl⟩ := fr_forms h0
 obtain ⟨a1, c1, e1, k1, rfl, rfl⟩ := fr_forms h1
 clear h0 h1
 have KN := Lib.hid (spec_negF g hg)
 have KA := Lib.hid (spec_addF f (negX g) hf (small_neg hg))
 clear hf hg
 unfold subX
 obtain ⟨nx, hnx⟩ : ∃ n, f.mag.length = n := ⟨_, rfl⟩
 rw [hnx] at H0 ⊢
 clear hnx
 obtain ⟨nd, hnd⟩ : ∃ n, f.den.length = n := ⟨_, rfl⟩
 rw [hnd] at H0 ⊢
 clear hnd
 obtain ⟨ny, hny⟩ : ∃ n, g.mag.length = n := ⟨_, rfl⟩
 rw [hny] at H1 ⊢
 clear hny
 obtain ⟨ne, hne⟩ : ∃ n, g.den.length = n := ⟨_, rfl⟩
 rw [hne] at H1 ⊢
 clear hne
 go_enter Tryz.func155, Tryz.ntmps155
 go_wp2_with fail
 obtain ⟨W0, hW0⟩ : ∃ x, x = (((w.alloc (.cells #[.bool f.neg, .slice a0 nx c0, .slice e0 nd k0] 34)).alloc (.cells #[.bool g.neg, .slice a1 ny c1, .slice e1 ne k1] 34)).alloc (.cells #[.bool false, .slice none 0 0, .slice none 0 0] 34)) := ⟨_, rfl⟩
 have B := Lib.hid (show Below w.heap.size w W0 by rw [hW0]; exact ((((Below.refl _ _).alloc (Nat.le_refl _) _).alloc (by simp) _).alloc (by simp; omega) _))
 have D_x := Lib.hid (rx_at (show Rx W0 _ 34 (f.neg) (.slice a0 nx c0) (.slice e0 nd k0) by rw [hW0]; exact ((Rx.new _ _ _ _ _).alloc _).alloc _) (show w.heap.size = _ by simp))
 have D_y := Lib.hid (rx_at (show Rx W0 _ 34 (g.neg) (.slice a1 ny c1) (.slice e1 ne k1) by rw [hW0]; exact (Rx.new _ _ _ _ _).alloc _) (show (w.heap.size + 1) = _ by simp))
 have D_r := Lib.hid (rx_at (show Rx W0 _ 34 (false) (.slice none 0 0) (.slice none 0 0) by rw [hW0]; exact Rx.new _ _ _ _ _) (show (w.heap.size + 1 + 1) = _ by simp))
 have SZ := Lib.hid (show W0.heap.size = w.heap.size + 1 + 1 + 1 by rw [hW0]; simp)
 rw [← hW0]
 clear hW0
 have BB := Lib.hid (Below.refl W0.heap.size W0)
 have K_n := Lib.hid (fun (W : World) (hW : Below W0.heap.size W0 W) => pre_rat (KN.out _ _ W ((H1.out.below B.out).below hW)) hW)
 have K_q := Lib.hid (fun (W : World) (hW : Below W0.heap.size W0 W) (vv dd : Value) (hr : RowR W vv (negX g).mag dd (negX g).den) => pre_rat (KA.out _ _ vv dd W ((H0.out.below B.out).below hW) hr) hW)
 have c0_x := (D_x.out.below BB.out).c0
 have c1_x := (D_x.out.below BB.out).c1
 have c2_x := (D_x.out.below BB.out).c2
 have c0_y := (D_y.out.below BB.out).c0
 have c1_y := (D_y.out.below BB.out).c1
 have c2_y := (D_y.out.below BB.out).c2
 have HS := Lib.hid (show ∀ W : World, Below W0.heap.size W0 W → (W.cell? ⟨w.heap.size, 0, none⟩ = some (.bool f.neg) ∧ W.cell? ⟨w.heap.size, 1, none⟩ = some (.slice a0 nx c0) ∧ W.cell? ⟨w.heap.size, 2, none⟩ = some (.slice e0 nd k0) ∧ W.cell? ⟨(w.heap.size + 1), 0, none⟩ = some (.bool g.neg) ∧ W.cell? ⟨(w.heap.size + 1), 1, none⟩ = some (.slice a1 ny c1) ∧ W.cell? ⟨(w.heap.size + 1), 2, none⟩ = some (.slice e1 ne k1)) from fun W hW => ⟨(hW.cell (p := ⟨w.heap.size, 0, none⟩) (D_x.out.below BB.out).lt).trans c0_x, (hW.cell (p := ⟨w.heap.size, 1, none⟩) (D_x.out.below BB.out).lt).trans c1_x, (hW.cell (p := ⟨w.heap.size, 2, none⟩) (D_x.out.below BB.out).lt).trans c2_x, (hW.cell (p := ⟨(w.heap.size + 1), 0, none⟩) (D_y.out.below BB.out).lt).trans c0_y, (hW.cell (p := ⟨(w.heap.size + 1), 1, none⟩) (D_y.out.below BB.out).lt).trans c1_y, (hW.cell (p := ⟨(w.heap.size + 1), 2, none⟩) (D_y.out.below BB.out).lt).trans c2_y⟩)
 have lt_x := (D_x.out.below BB.out).lt
 have lt_y := (D_y.out.below BB.out).lt
 have c0_r := (D_r.out.below BB.out).c0
 have c1_r := (D_r.out.below BB.out).c1
 have c2_r := (D_r.out.below BB.out).c2
 have f0_r := (D_r.out.below BB.out).f 0
 have f1_r := (D_r.out.below BB.out).f 1
 have f2_r := (D_r.out.below BB.out).f 2
 have HF := Lib.hid (show ∀ W : World, Below W0.heap.size W0 W → (W.cell? ⟨(w.heap.size + 1 + 1), 0, none⟩ = some (.bool false) ∧ W.cell? ⟨(w.heap.size + 1 + 1), 1, none⟩ = some (.slice none 0 0) ∧ W.cell? ⟨(w.heap.size + 1 + 1), 2, none⟩ = some (.slice none 0 0) ∧ W.frozen? ⟨(w.heap.size + 1 + 1), 0, none⟩ = false ∧ W.frozen? ⟨(w.heap.size + 1 + 1), 1, none⟩ = false ∧ W.frozen? ⟨(w.heap.size + 1 + 1), 2, none⟩ = false) from fun W hW => ⟨(hW.cell (p := ⟨(w.heap.size + 1 + 1), 0, none⟩) (D_r.out.below BB.out).lt).trans c0_r, (hW.cell (p := ⟨(w.heap.size + 1 + 1), 1, none⟩) (D_r.out.below BB.out).lt).trans c1_r, (hW.cell (p := ⟨(w.heap.size + 1 + 1), 2, none⟩) (D_r.out.below BB.out).lt).trans c2_r, (hW.frozen (p := ⟨(w.heap.size + 1 + 1), 0, none⟩) (D_r.out.below BB.out).lt).trans f0_r, (hW.frozen (p := ⟨(w.heap.size + 1 + 1), 1, none⟩) (D_r.out.below BB.out).lt).trans f1_r, (hW.frozen (p := ⟨(w.heap.size + 1 + 1), 2, none⟩) (D_r.out.below BB.out).lt).trans f2_r⟩)
 go_region_held3 (fun w' => w'.cell? ⟨w.heap.size, 0, none⟩ = some (.bool f.neg) ∧ w'.cell? ⟨w.heap.size, 1, none⟩ = some (.slice a0 nx c0) ∧ w'.cell? ⟨w.heap.size, 2, none⟩ = some (.slice e0 nd k0) ∧ w'.cell? ⟨(w.heap.size + 1), 0, none⟩ = some (.bool g.neg) ∧ w'.cell? ⟨(w.heap.size + 1), 1, none⟩ = some (.slice a1 ny c1) ∧ w'.cell? ⟨(w.heap.size + 1), 2, none⟩ = some (.slice e1 ne k1)) (first | exact HS.out _ (by first | with_reducible exact Below.refl _ _ | with_reducible exact (Below.refl _ _).drew | with_reducible exact bb_n | with_reducible exact bb_q | fail) | exact ⟨(cell_far3 (show w.heap.size ≠ (w.heap.size + 1 + 1) from by omega) _ _ _).trans ((HS.out _ (by first | with_reducible exact Below.refl _ _ | with_reducible exact (Below.refl _ _).drew | with_reducible exact bb_n | with_reducible exact bb_q | fail)).1), (cell_far3 (show w.heap.size ≠ (w.heap.size + 1 + 1) from by omega) _ _ _).trans ((HS.out _ (by first | with_reducible exact Below.refl _ _ | with_reducible exact (Below.refl _ _).drew | with_reducible exact bb_n | with_reducible exact bb_q | fail)).2.1), (cell_far3 (show w.heap.size ≠ (w.heap.size + 1 + 1) from by omega) _ _ _).trans ((HS.out _ (by first | with_reducible exact Below.refl _ _ | with_reducible exact (Below.refl _ _).drew | with_reducible exact bb_n | with_reducible exact bb_q | fail)).2.2.1), (cell_far3 (show (w.heap.size + 1) ≠ (w.heap.size + 1 + 1) from by omega) _ _ _).trans ((HS.out _ (by first | with_reducible exact Below.refl _ _ | with_reducible exact (Below.refl _ _).drew | with_reducible exact bb_n | with_reducible exact bb_q | fail)).2.2.2.1), (cell_far3 (show (w.heap.size + 1) ≠ (w.heap.size + 1 + 1) from by omega) _ _ _).trans ((HS.out _ (by first | with_reducible exact Below.refl _ _ | with_reducible exact (Below.refl _ _).drew | with_reducible exact bb_n | with_reducible exact bb_q | fail)).2.2.2.2.1), (cell_far3 (show (w.heap.size + 1) ≠ (w.heap.size + 1 + 1) from by omega) _ _ _).trans ((HS.out _ (by first | with_reducible exact Below.refl _ _ | with_reducible exact (Below.refl _ _).drew | with_reducible exact bb_n | with_reducible exact bb_q | fail)).2.2.2.2.2)⟩)
  (first
   | (go_at_call 178; refine (K_q.out _ (by first | with_reducible exact Below.refl _ _ | with_reducible exact (Below.refl _ _).drew | with_reducible exact bb_n | with_reducible exact bb_q | fail) _ _ (by first | with_reducible exact u_n.row)).mono ?_; rintro e w_q ⟨v_q, d_q, rfl, u_q, lo_q, bw_q, bb_q⟩; obtain ⟨a_q, c_q, e_q, f_q, rfl, rfl⟩ := u_q.slices; (try first | with_reducible (have u_n := u_n.below bw_q)); obtain ⟨s0, s1, s2, t0, t1, t2⟩ := HF.out _ bb_q)
   | (go_at_call 95; refine (K_n.out _ (by first | with_reducible exact Below.refl _ _ | with_reducible exact (Below.refl _ _).drew | with_reducible exact bb_n | with_reducible exact bb_q | fail)).mono ?_; rintro e w_n ⟨v_n, d_n, rfl, u_n, lo_n, bw_n, bb_n⟩; obtain ⟨a_n, c_n, e_n, f_n, rfl, rfl⟩ := u_n.slices; (try first | with_reducible (have u_q := u_q.below bw_n)); obtain ⟨s0, s1, s2, t0, t1, t2⟩ := HF.out _ bb_n))
 all_goals (have D9 := D_r.out.below (BB.out.trans (bb_q.mono BB.out.size)); obtain ⟨e1, e2⟩ := rat_end (b' := (addX f (negX g)).neg) (B.out.trans (bb_q.mono B.out.size)) D9 (OwnR.base (B' := W0.heap.size) u_q BB.out.size) (by decide) (by have := SZ.out; omega) (by omega) (.slice a_q (addX f (negX g)).mag.length c_q) (.slice e_q (addX f (negX g)).den.length f_q); have D8 := Rx.set3 (b' := (addX f (negX g)).neg) (v' := .slice a_q (addX f (negX g)).mag.length c_q) (d' := .slice e_q (addX f (negX g)).den.length f_q) D9; have hc0 := D8.c0; have hc1 := D8.c1; have hc2 := D8.c2; go_wp2; exact bodyPost_ret (v := .agg #[.bool ((addX f (negX g)).neg), .slice a_q (addX f (negX g)).mag.length c_q, .slice e_q (addX f (negX g)).den.length f_q]) (by simp [results, Tryz.results155, go_sem, hc0, hc1, hc2]) rfl ⟨_, _, rfl, e1, e2⟩)
end Go.Proofs.YtlepgkkpopjgoaaGreat
