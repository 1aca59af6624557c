/- The exact law of NatMul. -/
import Derived.Test.YtofmpfcbdemcnaaMul
namespace Go.Proofs.Ytofmpfcbdemcnaa
open Go.RowKit

set_option maxHeartbeats 400000 in
theorem spec_mulAny (va vb : Value) (x y : Nat) (w : World) (ha : RowOf iV w va (limI x)) (hb : RowOf iV w vb (limI y)) (hx : nlen x ≤ 1000) (hy : nlen y ≤ 1000) :
    Calls Try.prog 50 #[va, vb] w fun e w' => ∃ v, e = .returned v ∧ OwnI w' w.heap.size v (limI (x * y)) ∧ Below w.heap.size w w' := by
  by_cases hx0 : 0 < x
  · by_cases hy0 : 0 < y
    · exact spec_mul va vb x y w ha hb hx hy hx0 hy0
    · obtain rfl : y = 0 := by omega
      rw [Nat.mul_zero, limI_zero]
      have hz := (nlen_pos_iff x).2 hx0
      obtain ⟨aa, ca, rfl, h1, h2, h3⟩ := ha
      obtain ⟨ab, cb, rfl, h4, h5, h6⟩ := hb
      clear h1 h2 h3 h4 h5 h6
      rw [limI_zero, limI_length]
      have hz0 : ((nlen x : Int) == 0) = false := by simp; omega
      go_enter Try.func50, Try.ntmps50
      go_wp2
      go_ret
      exact ⟨_, rfl, OwnI.nil _ _, Below.refl _ _⟩
  · obtain rfl : x = 0 := by omega
    rw [Nat.zero_mul, limI_zero]
    obtain ⟨aa, ca, rfl, h1, h2, h3⟩ := ha
    obtain ⟨ab, cb, rfl, h4, h5, h6⟩ := hb
    clear h1 h2 h3 h4 h5 h6
    rw [limI_zero]
    go_enter Try.func50, Try.ntmps50
    go_wp2
    go_ret
    exact ⟨_, rfl, OwnI.nil _ _, Below.refl _ _⟩
theorem limI_list (x : Nat) : limI x = listF (nlen x) (digF x) := rfl

def natMulL (zs0 zs1 : List Int) : List Int := if okB zs0 && okB zs1 then capL (natI zs0 * natI zs1) else []
theorem natMulL_len (zs0 zs1 : List Int) : (natMulL zs0 zs1).length ≤ 1000 := by
  unfold natMulL
  split
  · have := capL_len (natI zs0 * natI zs1); omega
  · simp
theorem natMulL_yes {x y : Nat} (hx : x < pw 60) (hy : y < pw 60) : natMulL (limI x) (limI y) = capL (x * y) := by unfold natMulL; rw [okB_limI hx, okB_limI hy, natI_limI, natI_limI]; rfl
theorem natMulL_no {zs0 zs1 : List Int} (h : okB zs0 = false ∨ okB zs1 = false) : natMulL zs0 zs1 = [] := by
  unfold natMulL; rcases h with h | h <;> rw [h] <;> simp

end Go.Proofs.Ytofmpfcbdemcnaa
