/- The exact law of NatGcd. -/
import Derived.Test.YtofmpfcbdemcnaaDoorGcd
namespace Go.Proofs.YtofmpfcbdemcnaaDoor
open Go.RowKit

theorem gcd_len (x y : Nat) : nlen (Nat.gcd x y) ≤ max (nlen x) (nlen y) := by
  rcases Nat.eq_zero_or_pos x with h | h
  · subst h; rw [Nat.gcd_zero_left]; omega
  · have := nlen_mono (Nat.gcd_le_left y h); omega
def natGcdL (zs0 zs1 : List Int) : List Int := if okB zs0 && okB zs1 then limI (Nat.gcd (natI zs0) (natI zs1)) else []
theorem natGcdL_len (zs0 zs1 : List Int) : (natGcdL zs0 zs1).length ≤ 1000 := by
  unfold natGcdL
  split
  · rename_i h
    simp only [Bool.and_eq_true] at h
    obtain ⟨x, rfl, hx⟩ := okB_cases h.1
    obtain ⟨y, rfl, hy⟩ := okB_cases h.2
    rw [natI_limI, natI_limI, limI_length]
    have h1 := gcd_len x y
    have h2 := (nlen_le_iff 60 x).2 hx
    have h3 := (nlen_le_iff 60 y).2 hy
    omega
  · simp
theorem natGcdL_yes {x y : Nat} (hx : x < pw 60) (hy : y < pw 60) : natGcdL (limI x) (limI y) = limI (Nat.gcd x y) := by unfold natGcdL; rw [okB_limI hx, okB_limI hy, natI_limI, natI_limI]; rfl
theorem natGcdL_no {zs0 zs1 : List Int} (h : okB zs0 = false ∨ okB zs1 = false) : natGcdL zs0 zs1 = [] := by
  unfold natGcdL; rcases h with h | h <;> rw [h] <;> simp

set_option maxHeartbeats 400000 in
theorem impl_natGcd (va : Value) (zs0 : List Int) (vb : Value) (zs1 : List Int) (w : World) (ha : RowOf iV w va zs0) (hb : RowOf iV w vb zs1) :
    Calls Tryd.prog 10 #[va, vb] w fun e w' => ∃ v, e = .returned v ∧ OwnI w' w.heap.size v (natGcdL zs0 zs1) ∧ Below w.heap.size w w' := by
  have K0 := Lib.hid (impl_natOk va zs0 w ha)
  have K1 := Lib.hid (impl_natOk vb zs1 w hb)
  cases e0 : okB zs0 with
  | false =>
    have HE := Lib.hid (natGcdL_no (zs0 := zs0) (zs1 := zs1) (.inl e0))
    obtain ⟨aa, ca, rfl, h1, h2, h3⟩ := ha
    obtain ⟨ab, cb, rfl, h4, h5, h6⟩ := hb
    rw [e0] at K0
    clear e0 h1 h2 h3 h4 h5 h6
    go_enter Tryd.func10, Tryd.ntmps10
    go_wp2_with fail
    refine K0.out.mono ?_
    rintro e w1 ⟨rfl, rfl⟩
    go_wp2
    go_ret
    exact ⟨_, rfl, by rw [HE.out]; exact OwnI.nil _ _, Below.refl _ _⟩
  | true =>
    cases e1 : okB zs1 with
    | false =>
      have HE := Lib.hid (natGcdL_no (zs0 := zs0) (zs1 := zs1) (.inr e1))
      obtain ⟨aa, ca, rfl, h1, h2, h3⟩ := ha
      obtain ⟨ab, cb, rfl, h4, h5, h6⟩ := hb
      rw [e0] at K0
      rw [e1] at K1
      clear e0 e1 h1 h2 h3 h4 h5 h6
      go_enter Tryd.func10, Tryd.ntmps10
      go_wp2_with fail
      refine K0.out.mono ?_
      rintro e w1 ⟨rfl, rfl⟩
      go_wp2_with fail
      refine K1.out.mono ?_
      rintro e w1 ⟨rfl, rfl⟩
      go_wp2
      go_ret
      exact ⟨_, rfl, by rw [HE.out]; exact OwnI.nil _ _, Below.refl _ _⟩
    | true =>
      obtain ⟨x, rfl, hx⟩ := okB_cases e0
      obtain ⟨y, rfl, hy⟩ := okB_cases e1
      have HE := Lib.hid (natGcdL_yes (x := x) (y := y) hx hy)
      have H60x := Lib.hid ((nlen_le_iff _ _).2 hx)
      have H60y := Lib.hid ((nlen_le_iff _ _).2 hy)
      have hx1 : nlen x ≤ 1000 := by have := H60x.out; omega
      have hy1 : nlen y ≤ 1000 := by have := H60y.out; omega
      rw [e0] at K0
      rw [e1] at K1
      have RA := Lib.hid ha
      have RB := Lib.hid hb
      obtain ⟨aa, ca, rfl, h1, h2, h3⟩ := ha
      obtain ⟨ab, cb, rfl, h4, h5, h6⟩ := hb
      clear h1 h2 h3 h4 h5 h6 e0 e1 hx hy
      rw [limI_length] at RA K0 ⊢
      rw [limI_length] at RB K1
      try rw [limI_length]
      go_enter Tryd.func10, Tryd.ntmps10
      go_wp2_with fail
      refine K0.out.mono ?_
      rintro e w1 ⟨rfl, rfl⟩
      go_wp2_with fail
      refine K1.out.mono ?_
      rintro e w1 ⟨rfl, rfl⟩
      go_wp2_with fail
      refine (impl_gcd _ _ x y _ RA.out RB.out H60x.out H60y.out).mono ?_
      rintro e w2 ⟨v, rfl, o, b⟩
      have O := Lib.hid o
      clear o
      go_wp2
      go_ret
      exact ⟨_, rfl, by rw [HE.out]; exact O.out, b⟩

end Go.Proofs.YtofmpfcbdemcnaaDoor
