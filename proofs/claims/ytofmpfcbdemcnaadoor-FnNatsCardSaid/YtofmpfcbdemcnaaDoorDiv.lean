/- Quotients: l02Div of the model, divide of the program, the exact law of NatDiv. -/
import Derived.Test.YtofmpfcbdemcnaaDoorMany
import Derived.Test.YtofmpfcbdemcnaaDoorMulLaw
namespace Go.Proofs.YtofmpfcbdemcnaaDoor
open Go.RowKit

theorem apart_of {w1 w2 : World} {B : Nat} {v0 v1 : Value} {l l' : List Int} (h0 : OwnI w1 B v0 l) (h1 : OwnI w2 w1.heap.size v1 l') : Apart v0 v1 := fun a b e1 e2 => by
  have h2 := World.ownsRow.lt h0 a e1
  have h3 := World.ownsRow.lt h1 b e2
  omega
theorem one_limb {y : Nat} (h : nlen y = 1) : dig y 0 = y ∧ y < 1000000000 := by
  have h1 := lt_pw_nlen y
  rw [h, pw_one] at h1
  refine ⟨?_, h1⟩
  unfold dig
  rw [pw_zero, Nat.div_one, Nat.mod_eq_of_lt h1]

set_option maxHeartbeats 1000000 in
theorem impl_divOne (va vb : Value) (x y : Nat) (w : World) (ha : RowOf iV w va (limI x)) (hb : RowOf iV w vb (limI y)) (hy0 : 0 < y) (hx : nlen x ≤ 400) (h1 : nlen y = 1) (hxy : y ≤ x) :
    Calls Tryd.prog 36 #[va, vb] w fun e w' => ∃ v0 v1, e = .returned (.tuple #[v0, v1]) ∧ OwnI w' w.heap.size v0 (limI (x / y)) ∧ OwnI w' w.heap.size v1 (limI (x % y)) ∧ Apart v0 v1 ∧ Below w.heap.size w w' := by
  obtain ⟨hd, hy9⟩ := one_limb h1
  have T0 := Lib.hid (impl_compare va vb x y w ha hb (by omega) (by omega))
  have hc : cmpN x y = 0 ∨ cmpN x y = 1 := by unfold cmpN; split <;> (try split) <;> omega
  have T1 := Lib.hid (fun (W' : World) (hW : Below w.heap.size w W') => impl_divInt va x y W' (rowOf_below ha hW) hy0 hy9 (by omega))
  have hm : x % y ≤ 9223372036854775807 := by have := Nat.mod_lt x hy0; omega
  have T2 := Lib.hid (fun (W' : World) => impl_limbsOf_nat (x % y) W' hm)
  have RB := Lib.hid hb
  obtain ⟨aa, ca, rfl, e1, e2, e3⟩ := ha
  obtain ⟨ab, cb, rfl, e4, e5, e6⟩ := hb
  clear e1 e2 e3 e4 e5 e6
  rw [limI_length] at T1 T0 ⊢
  rw [limI_length] at RB T0 ⊢
  rw [h1] at RB T0 ⊢
  obtain ⟨bb, ob, rfl, cx⟩ := row_limb RB.out (k := 0) (by omega)
  rw [hd, Nat.add_zero] at cx
  have hbb : (⟨bb, ob, none⟩ : Addr).block < w.heap.size := World.block_lt_of_cell? w _ cx
  rcases hc with hc | hc
  · have T0 := T0.out
    rw [hc] at T0
    have T0 := Lib.hid T0
    go_enter Tryd.func36, Tryd.ntmps36
    go_wp2_with (first
        | (go_at_call 42; refine T0.out.mono ?_; rintro e w1 ⟨rfl, b1⟩; have cx1 := (b1.cell (p := ⟨bb, ob, none⟩) hbb).trans cx)
        | (go_at_call 58; refine (T1.out _ b1).mono ?_; rintro e w2 ⟨v0, rfl, o0, b2⟩)
        | (go_at_call 43; refine (T2.out _).mono ?_; rintro e w3 ⟨v1, rfl, o1, b3⟩))
    go_ret2
    exact ⟨_, _, rfl, (o0.base b1.size).below b3, o1.base (Nat.le_trans b1.size b2.size), apart_of o0 o1, (b1.trans (b2.mono b1.size)).trans (b3.mono (Nat.le_trans b1.size b2.size))⟩
  · have T0 := T0.out
    rw [hc] at T0
    have T0 := Lib.hid T0
    go_enter Tryd.func36, Tryd.ntmps36
    go_wp2_with (first
        | (go_at_call 42; refine T0.out.mono ?_; rintro e w1 ⟨rfl, b1⟩; have cx1 := (b1.cell (p := ⟨bb, ob, none⟩) hbb).trans cx)
        | (go_at_call 58; refine (T1.out _ b1).mono ?_; rintro e w2 ⟨v0, rfl, o0, b2⟩)
        | (go_at_call 43; refine (T2.out _).mono ?_; rintro e w3 ⟨v1, rfl, o1, b3⟩))
    go_ret2
    exact ⟨_, _, rfl, (o0.base b1.size).below b3, o1.base (Nat.le_trans b1.size b2.size), apart_of o0 o1, (b1.trans (b2.mono b1.size)).trans (b3.mono (Nat.le_trans b1.size b2.size))⟩

set_option maxHeartbeats 1000000 in
theorem impl_divLess (va vb : Value) (x y : Nat) (w : World) (ha : RowOf iV w va (limI x)) (hb : RowOf iV w vb (limI y)) (hx : nlen x ≤ 400) (hy : nlen y ≤ 400) (hxy : x < y) :
    Calls Tryd.prog 36 #[va, vb] w fun e w' => ∃ v0 v1, e = .returned (.tuple #[v0, v1]) ∧ OwnI w' w.heap.size v0 (limI (x / y)) ∧ OwnI w' w.heap.size v1 (limI (x % y)) ∧ Apart v0 v1 ∧ Below w.heap.size w w' := by
  have T0 := impl_compare va vb x y w ha hb (by omega) (by omega)
  rw [cmpN_lt hxy] at T0
  have T1 := Lib.hid (fun (W' : World) (hW : Below w.heap.size w W') => impl_clone va x W' (rowOf_below ha hW) (by omega))
  obtain ⟨aa, ca, rfl, e1, e2, e3⟩ := ha
  obtain ⟨ab, cb, rfl, e4, e5, e6⟩ := hb
  clear e1 e2 e3 e4 e5 e6
  rw [Nat.div_eq_of_lt hxy, Nat.mod_eq_of_lt hxy, limI_zero]
  rw [limI_length] at T0 T1 ⊢
  rw [limI_length] at T0 ⊢
  have T0 := Lib.hid T0
  go_enter Tryd.func36, Tryd.ntmps36
  go_wp2_with (first
      | (go_at_call 42; refine T0.out.mono ?_; rintro e w1 ⟨rfl, b1⟩)
      | (go_at_call 57; refine (T1.out _ b1).mono ?_; rintro e w2 ⟨v1, rfl, o1, b2⟩))
  go_ret2
  exact ⟨_, _, rfl, OwnI.nil _ _, o1.base b1.size, Apart.nil _, b1.trans (b2.mono b1.size)⟩

set_option maxHeartbeats 1000000 in
theorem impl_divMore (va vb : Value) (x y n : Nat) (w : World) (ha : RowOf iV w va (limI x)) (hb : RowOf iV w vb (limI y)) (hx : nlen x ≤ 400) (hy : nlen y = n + 2) (hxy : y ≤ x) :
    Calls Tryd.prog 36 #[va, vb] w fun e w' => ∃ v0 v1, e = .returned (.tuple #[v0, v1]) ∧ OwnI w' w.heap.size v0 (limI (x / y)) ∧ OwnI w' w.heap.size v1 (limI (x % y)) ∧ Apart v0 v1 ∧ Below w.heap.size w w' := by
  have hmn : n + 2 ≤ nlen x := by rw [← hy]; exact nlen_mono hxy
  have T0 := Lib.hid (impl_compare va vb x y w ha hb (by omega) (by omega))
  have hc : cmpN x y = 0 ∨ cmpN x y = 1 := by unfold cmpN; split <;> (try split) <;> omega
  have T1 := Lib.hid (fun (W' : World) (hW : Below w.heap.size w W') => impl_divMany va vb x y n W' (rowOf_below ha hW) (rowOf_below hb hW) hxy hx hy)
  obtain ⟨aa, ca, rfl, e1, e2, e3⟩ := ha
  obtain ⟨ab, cb, rfl, e4, e5, e6⟩ := hb
  clear e1 e2 e3 e4 e5 e6
  rw [limI_length] at T0 T1 ⊢
  rw [limI_length] at T0 T1 ⊢
  rw [hy] at T0 T1 ⊢
  have hz : ((n : Int) + 2 == 1) = false := by simp; omega
  clear hy hmn
  rcases hc with hc | hc
  · have T0 := T0.out
    rw [hc] at T0
    have T0 := Lib.hid T0
    clear hc
    go_enter Tryd.func36, Tryd.ntmps36
    go_wp2_with (first
      | (go_at_call 42; refine T0.out.mono ?_; rintro e w1 ⟨rfl, b1⟩)
      | (go_at_call 59; refine (T1.out _ b1).mono ?_; rintro e w2 ⟨v0, v1, rfl, o0, o1, ap, b2⟩))
    go_ret2
    exact ⟨_, _, rfl, o0.base b1.size, o1.base b1.size, ap, b1.trans (b2.mono b1.size)⟩
  · have T0 := T0.out
    rw [hc] at T0
    have T0 := Lib.hid T0
    clear hc
    go_enter Tryd.func36, Tryd.ntmps36
    go_wp2_with (first
      | (go_at_call 42; refine T0.out.mono ?_; rintro e w1 ⟨rfl, b1⟩)
      | (go_at_call 59; refine (T1.out _ b1).mono ?_; rintro e w2 ⟨v0, v1, rfl, o0, o1, ap, b2⟩))
    go_ret2
    exact ⟨_, _, rfl, o0.base b1.size, o1.base b1.size, ap, b1.trans (b2.mono b1.size)⟩

theorem impl_divide (va vb : Value) (x y : Nat) (w : World) (ha : RowOf iV w va (limI x)) (hb : RowOf iV w vb (limI y)) (hy0 : 0 < y) (hx : nlen x ≤ 400) (hy : nlen y ≤ 400) :
    Calls Tryd.prog 36 #[va, vb] w fun e w' => ∃ v0 v1, e = .returned (.tuple #[v0, v1]) ∧ OwnI w' w.heap.size v0 (limI (x / y)) ∧ OwnI w' w.heap.size v1 (limI (x % y)) ∧ Apart v0 v1 ∧ Below w.heap.size w w' := by
  by_cases hxy : x < y
  · exact impl_divLess va vb x y w ha hb hx hy hxy
  · by_cases h1 : nlen y = 1
    · exact impl_divOne va vb x y w ha hb hy0 hx h1 (by omega)
    · have h2 := (nlen_pos_iff y).2 hy0
      exact impl_divMore va vb x y (nlen y - 2) w ha hb hx (by omega) (by omega)

end Go.Proofs.YtofmpfcbdemcnaaDoor
