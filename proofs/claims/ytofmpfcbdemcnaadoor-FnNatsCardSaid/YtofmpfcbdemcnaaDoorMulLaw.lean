/- The exact law of NatMul. -/
import Derived.Test.YtofmpfcbdemcnaaDoorMul
namespace Go.Proofs.YtofmpfcbdemcnaaDoor
open Go.RowKit

theorem limI_list (x : Nat) : limI x = listF (nlen x) (digF x) := rfl

def natMulL (zs0 zs1 : List Int) : List Int := if okB zs0 && okB zs1 then capL (natI zs0 * natI zs1) else []
theorem natMulL_len (zs0 zs1 : List Int) : (natMulL zs0 zs1).length ≤ 1000 := by
  unfold natMulL
  split
  · have := capL_len (natI zs0 * natI zs1); omega
  · simp
theorem natMulL_yes {x y : Nat} (hx : x < pw 60) (hy : y < pw 60) : natMulL (limI x) (limI y) = capL (x * y) := by unfold natMulL; rw [okB_limI hx, okB_limI hy, natI_limI, natI_limI]; rfl
theorem natMulL_no {zs0 zs1 : List Int} (h : okB zs0 = false ∨ okB zs1 = false) : natMulL zs0 zs1 = [] := by
  unfold natMulL; rcases h with h | h <;> rw [h] <;> simp

set_option maxHeartbeats 400000 in
theorem impl_natMul (va : Value) (zs0 : List Int) (vb : Value) (zs1 : List Int) (w : World) (ha : RowOf iV w va zs0) (hb : RowOf iV w vb zs1) :
    Calls Tryd.prog 16 #[va, vb] w fun e w' => ∃ v, e = .returned v ∧ OwnI w' w.heap.size v (natMulL zs0 zs1) ∧ Below w.heap.size w w' := by
  have K0 := Lib.hid (impl_natOk va zs0 w ha)
  have K1 := Lib.hid (impl_natOk vb zs1 w hb)
  cases e0 : okB zs0 with
  | false =>
    have HE := Lib.hid (natMulL_no (zs0 := zs0) (zs1 := zs1) (.inl e0))
    obtain ⟨aa, ca, rfl, h1, h2, h3⟩ := ha
    obtain ⟨ab, cb, rfl, h4, h5, h6⟩ := hb
    rw [e0] at K0
    clear e0 h1 h2 h3 h4 h5 h6
    go_enter Tryd.func16, Tryd.ntmps16
    go_wp2_with fail
    refine K0.out.mono ?_
    rintro e w1 ⟨rfl, rfl⟩
    go_wp2
    go_ret
    exact ⟨_, rfl, by rw [HE.out]; exact OwnI.nil _ _, Below.refl _ _⟩
  | true =>
    cases e1 : okB zs1 with
    | false =>
      have HE := Lib.hid (natMulL_no (zs0 := zs0) (zs1 := zs1) (.inr e1))
      obtain ⟨aa, ca, rfl, h1, h2, h3⟩ := ha
      obtain ⟨ab, cb, rfl, h4, h5, h6⟩ := hb
      rw [e0] at K0
      rw [e1] at K1
      clear e0 e1 h1 h2 h3 h4 h5 h6
      go_enter Tryd.func16, Tryd.ntmps16
      go_wp2_with fail
      refine K0.out.mono ?_
      rintro e w1 ⟨rfl, rfl⟩
      go_wp2_with fail
      refine K1.out.mono ?_
      rintro e w1 ⟨rfl, rfl⟩
      go_wp2
      go_ret
      exact ⟨_, rfl, by rw [HE.out]; exact OwnI.nil _ _, Below.refl _ _⟩
    | true =>
      obtain ⟨x, rfl, hx⟩ := okB_cases e0
      obtain ⟨y, rfl, hy⟩ := okB_cases e1
      have HE := Lib.hid (natMulL_yes (x := x) (y := y) hx hy)
      have H60x := Lib.hid ((nlen_le_iff _ _).2 hx)
      have H60y := Lib.hid ((nlen_le_iff _ _).2 hy)
      have hx1 : nlen x ≤ 1000 := by have := H60x.out; omega
      have hy1 : nlen y ≤ 1000 := by have := H60y.out; omega
      rw [e0] at K0
      rw [e1] at K1
      have RA := Lib.hid ha
      have RB := Lib.hid hb
      obtain ⟨aa, ca, rfl, h1, h2, h3⟩ := ha
      obtain ⟨ab, cb, rfl, h4, h5, h6⟩ := hb
      clear h1 h2 h3 h4 h5 h6 e0 e1 hx hy
      rw [limI_length] at RA K0 ⊢
      rw [limI_length] at RB K1
      try rw [limI_length]
      go_enter Tryd.func16, Tryd.ntmps16
      go_wp2_with fail
      refine K0.out.mono ?_
      rintro e w1 ⟨rfl, rfl⟩
      go_wp2_with fail
      refine K1.out.mono ?_
      rintro e w1 ⟨rfl, rfl⟩
      go_wp2_with fail
      refine (impl_times _ _ x y _ RA.out RB.out hx1 hy1).mono ?_
      rintro e w2 ⟨v, rfl, o, b⟩
      have O := Lib.hid (impl_limited v (x * y) w1.heap.size w2 o)
      clear o
      go_wp2_with fail
      refine O.out.mono ?_
      rintro e w3 ⟨v', rfl, o, rfl⟩
      have O2 := Lib.hid o
      clear o
      go_wp2
      go_ret
      exact ⟨_, rfl, by rw [HE.out]; exact O2.out, b⟩

end Go.Proofs.YtofmpfcbdemcnaaDoor
