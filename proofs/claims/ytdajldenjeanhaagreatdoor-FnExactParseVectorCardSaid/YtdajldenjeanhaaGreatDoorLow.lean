/- What fractions are made of: the tests for 1, the common divisor, the quotient, what is too long; a copy of a row. -/
import Derived.Test.YtdajldenjeanhaaGreatDoorRat
import Derived.Test.YtdajldenjeanhaaGreatDoorDivisor
import Derived.Test.YtdajldenjeanhaaGreatDoorSigned
namespace Go.Proofs.YtdajldenjeanhaaGreatDoor
open Go.RowKit Go.WideShapes Go.ChangeShapes
set_option linter.unusedVariables false
set_option linter.unusedSimpArgs false

theorem one_iff (x : Nat) : (x = 1) ↔ (nlen x = 1 ∧ dig x 0 = 1) := by
  constructor
  · rintro rfl
    exact ⟨nlen_eq (k := 0) (by decide) (by decide), by decide⟩
  · rintro ⟨h1, h2⟩
    have := (one_limb h1).1
    omega
theorem limI_1 : limI 1 = [1] := by
  have h : nlen 1 = 1 := ((one_iff 1).1 rfl).1
  unfold limI
  rw [h]
  rfl


set_option maxHeartbeats 400000 in
theorem impl_isOne (v : Value) (x : Nat) (w : World) (h : RowOf iV w v (limI x)) :
    Calls Tryz.prog 38 #[v] w fun e w' => e = .returned (.bool (decide (x = 1))) ∧ w' = w := by
  have R := Lib.hid h
  obtain ⟨a, c, rfl, h1, h2, h3⟩ := h
  clear h1 h2 h3
  rw [limI_length] at R ⊢
  by_cases hn : nlen x = 1
  · obtain ⟨b, o, rfl, hx⟩ := row_limb R.out (k := 0) (by omega)
    rw [Nat.add_zero] at hx
    have HV := Lib.hid (show (dig x 0 == 1) = decide (x = 1) by
      have := one_iff x
      by_cases h : x = 1
      · rw [decide_eq_true h]; simp [(this.1 h).2]
      · rw [decide_eq_false h]; simp; exact fun h' => h (this.2 ⟨hn, h'⟩))
    obtain ⟨d, hd⟩ : ∃ d, dig x 0 = d := ⟨_, rfl⟩
    rw [hd] at hx HV
    rw [← HV.out]
    clear hd
    rw [hn]
    go_enter Tryz.func38, Tryz.ntmps38
    go_wp2
    go_ret
    exact ⟨ret_bool (by first | rfl | (rw [Bool.eq_iff_iff]; simp; try omega)), rfl⟩
  · have hf : decide (x = 1) = false := decide_eq_false (fun h => hn ((one_iff x).1 h).1)
    rw [hf]
    have hn' : ((nlen x : Int) == 1) = false := by simp; omega
    obtain ⟨n, hnn⟩ : ∃ n, nlen x = n := ⟨_, rfl⟩
    rw [hnn] at hn hn' ⊢
    clear hnn hf
    go_enter Tryz.func38, Tryz.ntmps38
    go_wp2
    go_ret
    exact ⟨rfl, rfl⟩


set_option maxHeartbeats 400000 in
theorem spec_isOne (v : Value) (x : Nat) (w : World) (h : RowOf iV w v (limI x)) :
    Calls Tryz.prog 32 #[v] w fun e w' => e = .returned (.bool (decide (x = 1))) ∧ w' = w := by
  have R := Lib.hid h
  obtain ⟨a, c, rfl, h1, h2, h3⟩ := h
  clear h1 h2 h3
  rw [limI_length] at R ⊢
  by_cases hn : nlen x = 1
  · obtain ⟨b, o, rfl, hx⟩ := row_limb R.out (k := 0) (by omega)
    rw [Nat.add_zero] at hx
    have HV := Lib.hid (show (dig x 0 == 1) = decide (x = 1) by
      have := one_iff x
      by_cases h : x = 1
      · rw [decide_eq_true h]; simp [(this.1 h).2]
      · rw [decide_eq_false h]; simp; exact fun h' => h (this.2 ⟨hn, h'⟩))
    obtain ⟨d, hd⟩ : ∃ d, dig x 0 = d := ⟨_, rfl⟩
    rw [hd] at hx HV
    rw [← HV.out]
    clear hd
    rw [hn]
    go_enter Tryz.func32, Tryz.ntmps32
    go_wp2
    go_ret
    exact ⟨ret_bool (by first | rfl | (rw [Bool.eq_iff_iff]; simp; try omega)), rfl⟩
  · have hf : decide (x = 1) = false := decide_eq_false (fun h => hn ((one_iff x).1 h).1)
    rw [hf]
    have hn' : ((nlen x : Int) == 1) = false := by simp; omega
    obtain ⟨n, hnn⟩ : ∃ n, nlen x = n := ⟨_, rfl⟩
    rw [hnn] at hn hn' ⊢
    clear hnn hf
    go_enter Tryz.func32, Tryz.ntmps32
    go_wp2
    go_ret
    exact ⟨rfl, rfl⟩


theorem gcd_one_of {x y : Nat} (h : x = 1 ∨ y = 1) : Nat.gcd x y = 1 := by
  rcases h with rfl | rfl
  · exact Nat.gcd_one_left y
  · exact Nat.gcd_one_right x
set_option maxHeartbeats 1000000 in
theorem impl_common (va vb : Value) (x y : Nat) (w : World) (ha : RowOf iV w va (limI x)) (hb : RowOf iV w vb (limI y)) (hx : nlen x ≤ 60) (hy : nlen y ≤ 60) :
    Calls Tryz.prog 57 #[va, vb] w fun e w' => ∃ v, e = .returned v ∧ OwnI w' w.heap.size v (limI (Nat.gcd x y)) ∧ Below w.heap.size w w' := by
  have K0 := Lib.hid (impl_isOne va x w ha)
  have K1 := Lib.hid (impl_isOne vb y w hb)
  have G := Lib.hid (impl_gcd va vb x y w ha hb hx hy)
  by_cases h0 : x = 1
  · rw [gcd_one_of (.inl h0), limI_1]
    rw [decide_eq_true h0] at K0
    clear h0 hx hy G
    obtain ⟨aa, ca, rfl, h1, h2, h3⟩ := ha
    obtain ⟨ab, cb, rfl, h4, h5, h6⟩ := hb
    clear h1 h2 h3 h4 h5 h6
    go_enter Tryz.func57, Tryz.ntmps57
    go_wp2_with (go_at_call 38; refine K0.out.mono ?_; rintro e w' ⟨rfl, rfl⟩)
    go_ret
    exact ⟨_, rfl, OwnI.lit1 _ _ 1 (Nat.le_refl _), (Below.refl _ _).alloc (Nat.le_refl _) _⟩
  · rw [decide_eq_false h0] at K0
    by_cases h9 : y = 1
    · rw [gcd_one_of (.inr h9), limI_1]
      rw [decide_eq_true h9] at K1
      clear h0 h9 hx hy G
      obtain ⟨aa, ca, rfl, h1, h2, h3⟩ := ha
      obtain ⟨ab, cb, rfl, h4, h5, h6⟩ := hb
      clear h1 h2 h3 h4 h5 h6
      go_enter Tryz.func57, Tryz.ntmps57
      go_wp2_with fail
      refine K0.out.mono ?_
      rintro e w' ⟨rfl, rfl⟩
      go_wp2_with fail
      refine K1.out.mono ?_
      rintro e w' ⟨rfl, rfl⟩
      go_wp2
      go_ret
      exact ⟨_, rfl, OwnI.lit1 _ _ 1 (Nat.le_refl _), (Below.refl _ _).alloc (Nat.le_refl _) _⟩
    · rw [decide_eq_false h9] at K1
      clear h0 h9 hx hy
      obtain ⟨aa, ca, rfl, h1, h2, h3⟩ := ha
      obtain ⟨ab, cb, rfl, h4, h5, h6⟩ := hb
      clear h1 h2 h3 h4 h5 h6
      go_enter Tryz.func57, Tryz.ntmps57
      go_wp2_with fail
      refine K0.out.mono ?_
      rintro e w' ⟨rfl, rfl⟩
      go_wp2_with fail
      refine K1.out.mono ?_
      rintro e w' ⟨rfl, rfl⟩
      go_wp2_with fail
      refine G.out.mono ?_
      rintro e w1 ⟨v, rfl, o1, b1⟩
      go_wp2
      go_ret
      exact ⟨_, rfl, o1, b1⟩


theorem gcd_len' {x y n : Nat} (h : 0 < Nat.gcd x y) (hx : nlen x ≤ n) (hy : nlen y ≤ n) : nlen (Nat.gcd x y) ≤ n := by
  have := gcd_len x y
  omega
end Go.Proofs.YtdajldenjeanhaaGreatDoor
