/- The exact law of NatDiv. -/
import Derived.Test.YtofmpfcbdemcnaaDoorDiv
namespace Go.Proofs.YtofmpfcbdemcnaaDoor
open Go.RowKit

def natDivQ (zs0 zs1 : List Int) : List Int := if okB zs0 && okB zs1 then limI (natI zs0 / natI zs1) else []
def natDivR (zs0 zs1 : List Int) : List Int := if okB zs0 && okB zs1 then (if natI zs1 = 0 then [] else limI (natI zs0 % natI zs1)) else []
theorem natDiv_yes {x y : Nat} (hx : x < pw 60) (hy : y < pw 60) : natDivQ (limI x) (limI y) = limI (x / y) ∧ natDivR (limI x) (limI y) = if y = 0 then [] else limI (x % y) := by
  unfold natDivQ natDivR; rw [okB_limI hx, okB_limI hy, natI_limI, natI_limI]; exact ⟨rfl, rfl⟩
theorem natDiv_no {zs0 zs1 : List Int} (h : okB zs0 = false ∨ okB zs1 = false) : natDivQ zs0 zs1 = [] ∧ natDivR zs0 zs1 = [] := by
  unfold natDivQ natDivR; rcases h with h | h <;> rw [h] <;> simp
theorem natDivQ_len (zs0 zs1 : List Int) : (natDivQ zs0 zs1).length ≤ 1000 := by
  unfold natDivQ
  split
  · rename_i h
    simp only [Bool.and_eq_true] at h
    obtain ⟨x, rfl, hx⟩ := okB_cases h.1
    rw [natI_limI, limI_length]
    have h1 := nlen_mono (Nat.div_le_self x (natI zs1))
    have h2 := (nlen_le_iff 60 x).2 hx
    omega
  · simp
theorem natDivR_len (zs0 zs1 : List Int) : (natDivR zs0 zs1).length ≤ 1000 := by
  unfold natDivR
  split
  · rename_i h
    simp only [Bool.and_eq_true] at h
    split
    · simp
    · obtain ⟨x, rfl, hx⟩ := okB_cases h.1
      rw [natI_limI, limI_length]
      have h1 := nlen_mono (Nat.mod_le x (natI zs1))
      have h2 := (nlen_le_iff 60 x).2 hx
      omega
  · simp

set_option maxHeartbeats 400000 in
theorem impl_natDiv (va : Value) (zs0 : List Int) (vb : Value) (zs1 : List Int) (w : World) (ha : RowOf iV w va zs0) (hb : RowOf iV w vb zs1) :
    Calls Tryd.prog 9 #[va, vb] w fun e w' => ∃ v0 v1, e = .returned (.tuple #[v0, v1]) ∧ OwnI w' w.heap.size v0 (natDivQ zs0 zs1) ∧ OwnI w' w.heap.size v1 (natDivR zs0 zs1) ∧ Apart v0 v1 ∧ Below w.heap.size w w' := by
  have K0 := Lib.hid (impl_natOk va zs0 w ha)
  have K1 := Lib.hid (impl_natOk vb zs1 w hb)
  cases e0 : okB zs0 with
  | false =>
    have HE := Lib.hid (natDiv_no (zs0 := zs0) (zs1 := zs1) (.inl e0))
    obtain ⟨aa, ca, rfl, h1, h2, h3⟩ := ha
    obtain ⟨ab, cb, rfl, h4, h5, h6⟩ := hb
    rw [e0] at K0
    clear e0 h1 h2 h3 h4 h5 h6
    go_enter Tryd.func9, Tryd.ntmps9
    go_wp2_with fail
    refine K0.out.mono ?_
    rintro e w1 ⟨rfl, rfl⟩
    go_wp2
    go_ret2
    exact ⟨_, _, rfl, by rw [HE.out.1]; exact OwnI.nil _ _, by rw [HE.out.2]; exact OwnI.nil _ _, Apart.nil _, Below.refl _ _⟩
  | true =>
    cases e1 : okB zs1 with
    | false =>
      have HE := Lib.hid (natDiv_no (zs0 := zs0) (zs1 := zs1) (.inr e1))
      obtain ⟨aa, ca, rfl, h1, h2, h3⟩ := ha
      obtain ⟨ab, cb, rfl, h4, h5, h6⟩ := hb
      rw [e0] at K0
      rw [e1] at K1
      clear e0 e1 h1 h2 h3 h4 h5 h6
      go_enter Tryd.func9, Tryd.ntmps9
      go_wp2_with fail
      refine K0.out.mono ?_
      rintro e w1 ⟨rfl, rfl⟩
      go_wp2_with fail
      refine K1.out.mono ?_
      rintro e w1 ⟨rfl, rfl⟩
      go_wp2
      go_ret2
      exact ⟨_, _, rfl, by rw [HE.out.1]; exact OwnI.nil _ _, by rw [HE.out.2]; exact OwnI.nil _ _, Apart.nil _, Below.refl _ _⟩
    | true =>
      obtain ⟨x, rfl, hx⟩ := okB_cases e0
      obtain ⟨y, rfl, hy⟩ := okB_cases e1
      have HE := Lib.hid (natDiv_yes (x := x) (y := y) hx hy)
      have H60x := Lib.hid ((nlen_le_iff _ _).2 hx)
      have H60y := Lib.hid ((nlen_le_iff _ _).2 hy)
      have hx1 : nlen x ≤ 1000 := by have := H60x.out; omega
      have hy1 : nlen y ≤ 1000 := by have := H60y.out; omega
      rw [e0] at K0
      rw [e1] at K1
      have RA := Lib.hid ha
      have RB := Lib.hid hb
      obtain ⟨aa, ca, rfl, h1, h2, h3⟩ := ha
      obtain ⟨ab, cb, rfl, h4, h5, h6⟩ := hb
      clear h1 h2 h3 h4 h5 h6 e0 e1 hx hy
      rw [limI_length] at RA K0 ⊢
      rw [limI_length] at RB K1
      try rw [limI_length]
      by_cases hy0 : y = 0
      · subst hy0
        rw [Nat.div_zero, if_pos rfl, limI_zero] at HE
        have H0 := Lib.hid nlen_zero
        rw [H0.out] at K1 RB ⊢
        go_enter Tryd.func9, Tryd.ntmps9
        go_wp2_with fail
        refine K0.out.mono ?_
        rintro e w1 ⟨rfl, rfl⟩
        go_wp2_with fail
        refine K1.out.mono ?_
        rintro e w1 ⟨rfl, rfl⟩
        go_wp2
        go_ret2
        exact ⟨_, _, rfl, by rw [limI_zero, HE.out.1]; exact OwnI.nil _ _, by rw [limI_zero, HE.out.2]; exact OwnI.nil _ _, Apart.nil _, Below.refl _ _⟩
      · rw [if_neg hy0] at HE
        have T := Lib.hid (fun (W' : World) (hW : Below w.heap.size w W') => impl_divide _ _ x y W' (rowOf_below RA.out hW) (rowOf_below RB.out hW) (by omega) (by have := H60x.out; omega) (by have := H60y.out; omega))
        have hz := (nlen_pos_iff y).2 (by omega)
        have hz0 : ((nlen y : Int) == 0) = false := by simp; omega
        clear hy0
        go_enter Tryd.func9, Tryd.ntmps9
        go_wp2_with fail
        refine K0.out.mono ?_
        rintro e w1 ⟨rfl, rfl⟩
        go_wp2_with fail
        refine K1.out.mono ?_
        rintro e w1 ⟨rfl, rfl⟩
        go_wp2_with fail
        refine (T.out _ (Below.refl _ _)).mono ?_
        rintro e w2 ⟨v0, v1, rfl, o0, o1, ap, b⟩
        have O0 := Lib.hid o0
        have O1 := Lib.hid o1
        have AP := Lib.hid ap
        clear o0 o1 ap
        go_wp2
        go_ret2
        exact ⟨_, _, rfl, by rw [HE.out.1]; exact O0.out, by rw [HE.out.2]; exact O1.out, AP.out, b⟩

end Go.Proofs.YtofmpfcbdemcnaaDoor
