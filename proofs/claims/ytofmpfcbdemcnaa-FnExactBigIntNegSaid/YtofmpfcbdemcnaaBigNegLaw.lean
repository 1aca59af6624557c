/- The exact law of BigIntNeg. -/
import Derived.Test.YtofmpfcbdemcnaaBigOps
namespace Go.Proofs.Ytofmpfcbdemcnaa
open Go.RowKit

set_option maxHeartbeats 4000000 in
theorem law_bigIntNeg (W : World) (ng0 : Bool) (v0 : Value) (zs0 : List Int) (h0 : RowOf iV W v0 zs0) (_ : True) :
    Calls Try.prog 6 #[.agg #[.bool ng0, v0]] W fun e w' => e = .returned (.bool true) ∧ Below W.heap.size W w' := by
  have R0 := Lib.hid h0
  obtain ⟨a0, c0, rfl, hc0, hm0, hr0⟩ := h0
  clear hr0
  unfold maxLen at hm0
  obtain ⟨m0, hm0'⟩ : ∃ n, zs0.length = n := ⟨_, rfl⟩
  rw [hm0'] at hc0 R0 ⊢
  have N0 := Lib.hid hm0'
  clear hm0'
  by_cases hl0 : m0 ≤ 1048576
  rotate_left
  · go_enter Try.func6, Try.ntmps6
    go_wp2_with fail
    obtain ⟨W0, hW0⟩ : ∃ x, x = (W.alloc (.cells #[.bool ng0, .slice a0 m0 c0] 24)) := ⟨_, rfl⟩
    have B := Lib.hid (show Below W.heap.size W W0 by rw [hW0]; exact (Below.refl W.heap.size W).alloc (Nat.le_refl _) (.cells #[.bool ng0, .slice a0 m0 c0] 24))
    have D_a0 := Lib.hid (show Bx W0 W.heap.size 24 ng0 (.slice a0 m0 c0) by rw [hW0]; exact (show Bx (W.alloc (.cells #[.bool ng0, .slice a0 m0 c0] 24)) W.heap.size 24 ng0 (.slice a0 m0 c0) from by simpa using (Bx.new _ _ _ _ : Bx _ _ 24 ng0 (.slice a0 m0 c0))))
    rw [← hW0]
    clear hW0
    refine (sz_big_no ng0 a0 m0 c0 (1048576) _ (by omega) (by omega)).mono ?_
    rintro e w0' ⟨rfl, bz0⟩
    replace B := Lib.hid (B.out.trans (bz0.mono B.out.size))
    clear bz0
    go_wp2
    go_ret
    exact ⟨rfl, B.out⟩
  go_enter Try.func6, Try.ntmps6
  go_wp2_with fail
  obtain ⟨W0, hW0⟩ : ∃ x, x = (W.alloc (.cells #[.bool ng0, .slice a0 m0 c0] 24)) := ⟨_, rfl⟩
  have B := Lib.hid (show Below W.heap.size W W0 by rw [hW0]; exact (Below.refl W.heap.size W).alloc (Nat.le_refl _) (.cells #[.bool ng0, .slice a0 m0 c0] 24))
  have D_a0 := Lib.hid (show Bx W0 W.heap.size 24 ng0 (.slice a0 m0 c0) by rw [hW0]; exact (show Bx (W.alloc (.cells #[.bool ng0, .slice a0 m0 c0] 24)) W.heap.size 24 ng0 (.slice a0 m0 c0) from by simpa using (Bx.new _ _ _ _ : Bx _ _ 24 ng0 (.slice a0 m0 c0))))
  rw [← hW0]
  clear hW0
  have z0 := Lib.hid (show W.heap.size ≤ W0.heap.size from B.out.size)
  refine (sz_big_yes ng0 a0 m0 c0 (1048576) _ (by omega) (by omega)).mono ?_
  rintro e w1 ⟨rfl, b1⟩
  have z1 := Lib.hid b1.size
  replace D_a0 := Lib.hid (D_a0.out.below b1)
  replace B := Lib.hid (B.out.trans (b1.mono B.out.size))
  clear b1
  have c0_a0 := D_a0.out.c0
  have c1_a0 := D_a0.out.c1
  go_wp2_with fail
  clear c0_a0 c1_a0
  refine (to_bigs _ zs0 _ (rowOf_below R0.out B.out) (by rw [N0.out]; omega)).mono ?_
  rintro e w2 ⟨v_t1, rfl, o_t1, b2⟩
  obtain ⟨a_t1, c_t1, rfl⟩ := o_t1.slice
  have z2 := Lib.hid b2.size
  replace D_a0 := Lib.hid (D_a0.out.below b2)
  replace B := Lib.hid (B.out.trans (b2.mono B.out.size))
  have O_t1 := Lib.hid o_t1
  have L_t1 := Lib.hid o_t1.lt
  clear o_t1
  clear b2
  go_wp2_with fail
  refine (spec_bigNeg ng0 _ zs0 _  O_t1.out.row).mono ?_
  rintro e w3 ⟨v_w_0, rfl, o_w_0, b3⟩
  obtain ⟨a_w_0, c_w_0, rfl⟩ := o_w_0.slice
  have z3 := Lib.hid b3.size
  replace O_t1 := Lib.hid (O_t1.out.below b3)
  replace D_a0 := Lib.hid (D_a0.out.below b3)
  replace B := Lib.hid (B.out.trans (b3.mono B.out.size))
  have O_w_0 := Lib.hid o_w_0
  have L_w_0 := Lib.hid o_w_0.lt
  clear o_w_0
  clear b3
  clear O_t1 L_t1
  have c0_a0 := D_a0.out.c0
  have c1_a0 := D_a0.out.c1
  have hz := B.out.size
  have lt_a0 := D_a0.out.lt
  go_wp2_with fail
  clear c0_a0 c1_a0
  clear hz
  clear lt_a0
  obtain ⟨w4, hW0⟩ : ∃ x, x = w3.alloc (.cells #[.bool (bigNegB ng0 zs0), .slice a_w_0 (bigNegL ng0 zs0).length c_w_0] 27) := ⟨_, rfl⟩
  replace O_w_0 := Lib.hid (show OwnI w4 _ _ _ by rw [hW0]; exact O_w_0.out.alloc _)
  replace D_a0 := Lib.hid (show Bx w4 _ _ _ _ by rw [hW0]; exact D_a0.out.alloc _)
  have D_w_0 := Lib.hid (show Bx w4 w3.heap.size 27 (bigNegB ng0 zs0) (.slice a_w_0 (bigNegL ng0 zs0).length c_w_0) by rw [hW0]; exact Bx.new _ _ _ _)
  replace B := Lib.hid (show Below W.heap.size W w4 by rw [hW0]; exact B.out.alloc B.out.size _)
  have z4 := Lib.hid (show w3.heap.size ≤ w4.heap.size by rw [hW0]; simp)
  rw [← hW0]
  clear hW0
  refine (to_bigs _ zs0 _ (rowOf_below R0.out B.out) (by rw [N0.out]; omega)).mono ?_
  rintro e w5 ⟨v_t2, rfl, o_t2, b5⟩
  obtain ⟨a_t2, c_t2, rfl⟩ := o_t2.slice
  have z5 := Lib.hid b5.size
  replace O_w_0 := Lib.hid (O_w_0.out.below b5)
  replace D_a0 := Lib.hid (D_a0.out.below b5)
  replace D_w_0 := Lib.hid (D_w_0.out.below b5)
  replace B := Lib.hid (B.out.trans (b5.mono B.out.size))
  have O_t2 := Lib.hid o_t2
  have L_t2 := Lib.hid o_t2.lt
  clear o_t2
  clear b5
  have hz := B.out.size
  go_wp2_with fail
  clear hz
  obtain ⟨w6, hW0⟩ : ∃ x, x = w5.alloc (.cells #[.bool ng0, .slice a_t2 (zs0).length c_t2] 27) := ⟨_, rfl⟩
  replace O_w_0 := Lib.hid (show OwnI w6 _ _ _ by rw [hW0]; exact O_w_0.out.alloc _)
  replace O_t2 := Lib.hid (show OwnI w6 _ _ _ by rw [hW0]; exact O_t2.out.alloc _)
  replace D_a0 := Lib.hid (show Bx w6 _ _ _ _ by rw [hW0]; exact D_a0.out.alloc _)
  replace D_w_0 := Lib.hid (show Bx w6 _ _ _ _ by rw [hW0]; exact D_w_0.out.alloc _)
  have D_t2 := Lib.hid (show Bx w6 w5.heap.size 27 ng0 (.slice a_t2 (zs0).length c_t2) by rw [hW0]; exact Bx.new _ _ _ _)
  replace B := Lib.hid (show Below W.heap.size W w6 by rw [hW0]; exact B.out.alloc B.out.size _)
  have z6 := Lib.hid (show w5.heap.size ≤ w6.heap.size by rw [hW0]; simp)
  rw [← hW0]
  clear hW0
  refine (impl_bigNeg ng0 _ zs0 _  O_t2.out.row).mono ?_
  rintro e w7 ⟨v_g_0, rfl, o_g_0, b7⟩
  obtain ⟨a_g_0, c_g_0, rfl⟩ := o_g_0.slice
  have z7 := Lib.hid b7.size
  replace O_w_0 := Lib.hid (O_w_0.out.below b7)
  replace O_t2 := Lib.hid (O_t2.out.below b7)
  replace D_a0 := Lib.hid (D_a0.out.below b7)
  replace D_w_0 := Lib.hid (D_w_0.out.below b7)
  replace D_t2 := Lib.hid (D_t2.out.below b7)
  replace B := Lib.hid (B.out.trans (b7.mono B.out.size))
  have O_g_0 := Lib.hid o_g_0
  have L_g_0 := Lib.hid o_g_0.lt
  clear o_g_0
  clear b7
  have c0_w_0 := D_w_0.out.c0
  have c1_w_0 := D_w_0.out.c1
  have hz := B.out.size
  have lt_w_0 := D_w_0.out.lt
  go_wp2_with fail
  clear c0_w_0 c1_w_0
  clear hz
  clear lt_w_0
  obtain ⟨w8, hW0⟩ : ∃ x, x = w7.alloc (.cells #[.bool (bigNegB ng0 zs0), .slice a_g_0 (bigNegL ng0 zs0).length c_g_0] 27) := ⟨_, rfl⟩
  replace O_w_0 := Lib.hid (show OwnI w8 _ _ _ by rw [hW0]; exact O_w_0.out.alloc _)
  replace O_t2 := Lib.hid (show OwnI w8 _ _ _ by rw [hW0]; exact O_t2.out.alloc _)
  replace O_g_0 := Lib.hid (show OwnI w8 _ _ _ by rw [hW0]; exact O_g_0.out.alloc _)
  replace D_a0 := Lib.hid (show Bx w8 _ _ _ _ by rw [hW0]; exact D_a0.out.alloc _)
  replace D_w_0 := Lib.hid (show Bx w8 _ _ _ _ by rw [hW0]; exact D_w_0.out.alloc _)
  replace D_t2 := Lib.hid (show Bx w8 _ _ _ _ by rw [hW0]; exact D_t2.out.alloc _)
  have D_g_0 := Lib.hid (show Bx w8 w7.heap.size 27 (bigNegB ng0 zs0) (.slice a_g_0 (bigNegL ng0 zs0).length c_g_0) by rw [hW0]; exact Bx.new _ _ _ _)
  replace B := Lib.hid (show Below W.heap.size W w8 by rw [hW0]; exact B.out.alloc B.out.size _)
  have z8 := Lib.hid (show w7.heap.size ≤ w8.heap.size by rw [hW0]; simp)
  rw [← hW0]
  clear hW0
  refine (eq_bigsB _ _ _ _ O_g_0.out.row O_w_0.out.row).mono ?_
  rintro e w9 ⟨rfl, b9⟩
  have z9 := Lib.hid b9.size
  replace O_w_0 := Lib.hid (O_w_0.out.below b9)
  replace O_t2 := Lib.hid (O_t2.out.below b9)
  replace O_g_0 := Lib.hid (O_g_0.out.below b9)
  replace D_a0 := Lib.hid (D_a0.out.below b9)
  replace D_w_0 := Lib.hid (D_w_0.out.below b9)
  replace D_t2 := Lib.hid (D_t2.out.below b9)
  replace D_g_0 := Lib.hid (D_g_0.out.below b9)
  replace B := Lib.hid (B.out.trans (b9.mono B.out.size))
  clear b9
  go_wp2_with fail
  go_wp2_with fail
  have c0_t2 := D_t2.out.c0
  have c1_t2 := D_t2.out.c1
  have c0_a0 := D_a0.out.c0
  have c1_a0 := D_a0.out.c1
  have lt_t2 := D_t2.out.lt
  have lt_a0 := D_a0.out.lt
  go_region_held3 (fun w' => w'.cell? ⟨w5.heap.size, 0, none⟩ = some (.bool ng0) ∧ w'.cell? ⟨w5.heap.size, 1, none⟩ = some (.slice a_t2 (zs0).length c_t2) ∧ w'.cell? ⟨W.heap.size, 0, none⟩ = some (.bool ng0) ∧ w'.cell? ⟨W.heap.size, 1, none⟩ = some (.slice a0 m0 c0)) (first | exact ⟨d11_0_t2, d11_1_t2, d11_0_a0, d11_1_a0⟩ | exact ⟨d10_0_t2, d10_1_t2, d10_0_a0, d10_1_a0⟩ | exact ⟨c0_t2, c1_t2, c0_a0, c1_a0⟩)
    (first
      | (have := bb10; go_at_call 16; refine (eq_bigsB _ _ _ _ (rowOf_below O_t2.out.row bb10) o_t3.row).mono ?_; rintro e w11 ⟨rfl, b11⟩; have bb11 : Below w9.heap.size w9 w11 := bb10.trans (b11.mono bb10.size); have d11_0_t2 := (bb11.cell (p := ⟨w5.heap.size, 0, none⟩) lt_t2).trans c0_t2; have d11_1_t2 := (bb11.cell (p := ⟨w5.heap.size, 1, none⟩) lt_t2).trans c1_t2; have d11_0_a0 := (bb11.cell (p := ⟨W.heap.size, 0, none⟩) lt_a0).trans c0_a0; have d11_1_a0 := (bb11.cell (p := ⟨W.heap.size, 1, none⟩) lt_a0).trans c1_a0)
      | (go_at_call 14; refine (to_bigs _ zs0 _ (rowOf_below R0.out (B.out.trans (Below.mono (by first | exact Below.refl _ _ | exact (Below.refl _ _).drew) B.out.size))) (by rw [N0.out]; omega)).mono ?_; rintro e w10 ⟨v_t3, rfl, o_t3, b10⟩; obtain ⟨a_t3, c_t3, rfl⟩ := o_t3.slice; have bb10 : Below w9.heap.size w9 w10 := (by first | exact b10 | exact ((Below.refl _ _).drew).trans b10); have d10_0_t2 := (bb10.cell (p := ⟨w5.heap.size, 0, none⟩) lt_t2).trans c0_t2; have d10_1_t2 := (bb10.cell (p := ⟨w5.heap.size, 1, none⟩) lt_t2).trans c1_t2; have d10_0_a0 := (bb10.cell (p := ⟨W.heap.size, 0, none⟩) lt_a0).trans c0_a0; have d10_1_a0 := (bb10.cell (p := ⟨W.heap.size, 1, none⟩) lt_a0).trans c1_a0))
  clear b10
  have b10 := bb10
  replace o_t3 : OwnI w10 w9.heap.size _ _ := o_t3
  have z10 := Lib.hid b10.size
  replace O_w_0 := Lib.hid (O_w_0.out.below b10)
  replace O_t2 := Lib.hid (O_t2.out.below b10)
  replace O_g_0 := Lib.hid (O_g_0.out.below b10)
  replace D_a0 := Lib.hid (D_a0.out.below b10)
  replace D_w_0 := Lib.hid (D_w_0.out.below b10)
  replace D_t2 := Lib.hid (D_t2.out.below b10)
  replace D_g_0 := Lib.hid (D_g_0.out.below b10)
  replace B := Lib.hid (B.out.trans (b10.mono B.out.size))
  have O_t3 := Lib.hid o_t3
  have L_t3 := Lib.hid o_t3.lt
  clear o_t3
  clear b10
  clear d10_0_t2 d10_1_t2
  clear d10_0_a0 d10_1_a0
  have z11 := Lib.hid b11.size
  replace O_w_0 := Lib.hid (O_w_0.out.below b11)
  replace O_t2 := Lib.hid (O_t2.out.below b11)
  replace O_g_0 := Lib.hid (O_g_0.out.below b11)
  replace O_t3 := Lib.hid (O_t3.out.below b11)
  replace D_a0 := Lib.hid (D_a0.out.below b11)
  replace D_w_0 := Lib.hid (D_w_0.out.below b11)
  replace D_t2 := Lib.hid (D_t2.out.below b11)
  replace D_g_0 := Lib.hid (D_g_0.out.below b11)
  replace B := Lib.hid (B.out.trans (b11.mono B.out.size))
  clear b11
  clear d11_0_t2 d11_1_t2
  clear d11_0_a0 d11_1_a0
  clear bb10 bb11
  clear c0_t2 c1_t2
  clear c0_a0 c1_a0
  clear lt_t2
  clear lt_a0
  clear O_t3 L_t3
  have c0_t2 := D_t2.out.c0
  have c1_t2 := D_t2.out.c1
  go_wp2_with fail
  clear c0_t2 c1_t2
  refine (mark_bigs _ (1) _ _ _ _ (by simp) O_t2.out (by rw [N0.out]; omega)).mono ?_
  rintro e w12 ⟨rfl, o12, b12⟩
  have z12 := Lib.hid (grownBy_size b12)
  replace D_a0 := Lib.hid (D_a0.out.marked O_t2.out (by decide) b12)
  replace D_w_0 := Lib.hid (D_w_0.out.marked O_t2.out (by decide) b12)
  replace D_t2 := Lib.hid (D_t2.out.marked O_t2.out (by decide) b12)
  replace D_g_0 := Lib.hid (D_g_0.out.marked O_t2.out (by decide) b12)
  have OLD := O_t2
  replace O_w_0 := Lib.hid (O_w_0.out.other b12 (fun g g' e1 e2 => by have := L_w_0.out g e1; have := L_t2.out g' e2; have := z0.out; have := z1.out; have := z2.out; have := z3.out; have := z4.out; have := z5.out; have := z6.out; have := z7.out; have := z8.out; have := z9.out; have := z10.out; have := z11.out; omega))
  replace O_t2 := Lib.hid o12
  replace O_g_0 := Lib.hid (O_g_0.out.other b12 (fun g g' e1 e2 => by have := L_g_0.out g e1; have := L_t2.out g' e2; have := z0.out; have := z1.out; have := z2.out; have := z3.out; have := z4.out; have := z5.out; have := z6.out; have := z7.out; have := z8.out; have := z9.out; have := z10.out; have := z11.out; omega))
  clear OLD
  replace B := Lib.hid (Below.grown B.out b12 B.out.size (fun g hg => by have := L_t2.out g hg; have := z0.out; have := z1.out; have := z2.out; have := z3.out; have := z4.out; have := z5.out; have := z6.out; have := z7.out; have := z8.out; have := z9.out; have := z10.out; have := z11.out; have := B.out.size; omega))
  clear o12
  clear b12
  rw [N0.out]
  clear O_t2 L_t2
  have c0_g_0 := D_g_0.out.c0
  have c1_g_0 := D_g_0.out.c1
  have c0_w_0 := D_w_0.out.c0
  have c1_w_0 := D_w_0.out.c1
  go_wp2_with fail
  clear c0_g_0 c1_g_0
  clear c0_w_0 c1_w_0
  refine (eq_bigsB _ _ _ _ O_g_0.out.row O_w_0.out.row).mono ?_
  rintro e w13 ⟨rfl, b13⟩
  have z13 := Lib.hid b13.size
  replace O_w_0 := Lib.hid (O_w_0.out.below b13)
  replace O_g_0 := Lib.hid (O_g_0.out.below b13)
  replace D_a0 := Lib.hid (D_a0.out.below b13)
  replace D_w_0 := Lib.hid (D_w_0.out.below b13)
  replace D_t2 := Lib.hid (D_t2.out.below b13)
  replace D_g_0 := Lib.hid (D_g_0.out.below b13)
  replace B := Lib.hid (B.out.trans (b13.mono B.out.size))
  clear b13
  have hl_0 := Lib.hid (bigNegL_len ng0 zs0)
  have hq0 : (bigNegL ng0 zs0).length ≤ 1000 := hl_0.out
  have c0_g_0 := D_g_0.out.c0
  have c1_g_0 := D_g_0.out.c1
  go_wp2_with fail
  clear c0_g_0 c1_g_0
  refine (mark_bigs _ (1) _ _ _ _ (by simp) O_g_0.out (by omega)).mono ?_
  rintro e w14 ⟨rfl, o14, b14⟩
  have z14 := Lib.hid (grownBy_size b14)
  replace D_a0 := Lib.hid (D_a0.out.marked O_g_0.out (by decide) b14)
  replace D_w_0 := Lib.hid (D_w_0.out.marked O_g_0.out (by decide) b14)
  replace D_t2 := Lib.hid (D_t2.out.marked O_g_0.out (by decide) b14)
  replace D_g_0 := Lib.hid (D_g_0.out.marked O_g_0.out (by decide) b14)
  have OLD := O_g_0
  replace O_w_0 := Lib.hid (O_w_0.out.other b14 (fun g g' e1 e2 => by have := L_w_0.out g e1; have := L_g_0.out g' e2; have := z0.out; have := z1.out; have := z2.out; have := z3.out; have := z4.out; have := z5.out; have := z6.out; have := z7.out; have := z8.out; have := z9.out; have := z10.out; have := z11.out; have := z12.out; have := z13.out; omega))
  replace O_g_0 := Lib.hid o14
  clear OLD
  replace B := Lib.hid (Below.grown B.out b14 B.out.size (fun g hg => by have := L_g_0.out g hg; have := z0.out; have := z1.out; have := z2.out; have := z3.out; have := z4.out; have := z5.out; have := z6.out; have := z7.out; have := z8.out; have := z9.out; have := z10.out; have := z11.out; have := z12.out; have := z13.out; have := B.out.size; omega))
  clear o14
  clear b14
  have c0_g_0 := D_g_0.out.c0
  have c1_g_0 := D_g_0.out.c1
  go_wp2_with fail
  clear c0_g_0 c1_g_0
  refine (held_bigsB _ (bigNegL ng0 zs0).length (1) _ _ (by simp) O_g_0.out.row (by omega)).mono ?_
  rintro e w15 ⟨rfl, b15⟩
  have z15 := Lib.hid b15.size
  replace O_w_0 := Lib.hid (O_w_0.out.below b15)
  replace O_g_0 := Lib.hid (O_g_0.out.below b15)
  replace D_a0 := Lib.hid (D_a0.out.below b15)
  replace D_w_0 := Lib.hid (D_w_0.out.below b15)
  replace D_t2 := Lib.hid (D_t2.out.below b15)
  replace D_g_0 := Lib.hid (D_g_0.out.below b15)
  replace B := Lib.hid (B.out.trans (b15.mono B.out.size))
  clear b15
  have c0_a0 := D_a0.out.c0
  have c1_a0 := D_a0.out.c1
  go_wp2_with fail
  clear c0_a0 c1_a0
  refine (to_bigs _ zs0 _ (rowOf_below R0.out B.out) (by rw [N0.out]; omega)).mono ?_
  rintro e w16 ⟨v_t4, rfl, o_t4, b16⟩
  obtain ⟨a_t4, c_t4, rfl⟩ := o_t4.slice
  have z16 := Lib.hid b16.size
  replace O_w_0 := Lib.hid (O_w_0.out.below b16)
  replace O_g_0 := Lib.hid (O_g_0.out.below b16)
  replace D_a0 := Lib.hid (D_a0.out.below b16)
  replace D_w_0 := Lib.hid (D_w_0.out.below b16)
  replace D_t2 := Lib.hid (D_t2.out.below b16)
  replace D_g_0 := Lib.hid (D_g_0.out.below b16)
  replace B := Lib.hid (B.out.trans (b16.mono B.out.size))
  have O_t4 := Lib.hid o_t4
  have L_t4 := Lib.hid o_t4.lt
  clear o_t4
  clear b16
  go_wp2_with fail
  refine (impl_bigNeg ng0 _ zs0 _  O_t4.out.row).mono ?_
  rintro e w17 ⟨v_h_0, rfl, o_h_0, b17⟩
  obtain ⟨a_h_0, c_h_0, rfl⟩ := o_h_0.slice
  have z17 := Lib.hid b17.size
  replace O_w_0 := Lib.hid (O_w_0.out.below b17)
  replace O_g_0 := Lib.hid (O_g_0.out.below b17)
  replace O_t4 := Lib.hid (O_t4.out.below b17)
  replace D_a0 := Lib.hid (D_a0.out.below b17)
  replace D_w_0 := Lib.hid (D_w_0.out.below b17)
  replace D_t2 := Lib.hid (D_t2.out.below b17)
  replace D_g_0 := Lib.hid (D_g_0.out.below b17)
  replace B := Lib.hid (B.out.trans (b17.mono B.out.size))
  have O_h_0 := Lib.hid o_h_0
  have L_h_0 := Lib.hid o_h_0.lt
  clear o_h_0
  clear b17
  clear O_t4 L_t4
  have c0_w_0 := D_w_0.out.c0
  have c1_w_0 := D_w_0.out.c1
  have hz := B.out.size
  have lt_w_0 := D_w_0.out.lt
  go_wp2_with fail
  clear c0_w_0 c1_w_0
  clear hz
  clear lt_w_0
  obtain ⟨w18, hW0⟩ : ∃ x, x = w17.alloc (.cells #[.bool (bigNegB ng0 zs0), .slice a_h_0 (bigNegL ng0 zs0).length c_h_0] 27) := ⟨_, rfl⟩
  replace O_w_0 := Lib.hid (show OwnI w18 _ _ _ by rw [hW0]; exact O_w_0.out.alloc _)
  replace O_g_0 := Lib.hid (show OwnI w18 _ _ _ by rw [hW0]; exact O_g_0.out.alloc _)
  replace O_h_0 := Lib.hid (show OwnI w18 _ _ _ by rw [hW0]; exact O_h_0.out.alloc _)
  replace D_a0 := Lib.hid (show Bx w18 _ _ _ _ by rw [hW0]; exact D_a0.out.alloc _)
  replace D_w_0 := Lib.hid (show Bx w18 _ _ _ _ by rw [hW0]; exact D_w_0.out.alloc _)
  replace D_t2 := Lib.hid (show Bx w18 _ _ _ _ by rw [hW0]; exact D_t2.out.alloc _)
  replace D_g_0 := Lib.hid (show Bx w18 _ _ _ _ by rw [hW0]; exact D_g_0.out.alloc _)
  have D_h_0 := Lib.hid (show Bx w18 w17.heap.size 27 (bigNegB ng0 zs0) (.slice a_h_0 (bigNegL ng0 zs0).length c_h_0) by rw [hW0]; exact Bx.new _ _ _ _)
  replace B := Lib.hid (show Below W.heap.size W w18 by rw [hW0]; exact B.out.alloc B.out.size _)
  have z18 := Lib.hid (show w17.heap.size ≤ w18.heap.size by rw [hW0]; simp)
  rw [← hW0]
  clear hW0
  refine (eq_bigsB _ _ _ _ O_h_0.out.row O_w_0.out.row).mono ?_
  rintro e w19 ⟨rfl, b19⟩
  have z19 := Lib.hid b19.size
  replace O_w_0 := Lib.hid (O_w_0.out.below b19)
  replace O_g_0 := Lib.hid (O_g_0.out.below b19)
  replace O_h_0 := Lib.hid (O_h_0.out.below b19)
  replace D_a0 := Lib.hid (D_a0.out.below b19)
  replace D_w_0 := Lib.hid (D_w_0.out.below b19)
  replace D_t2 := Lib.hid (D_t2.out.below b19)
  replace D_g_0 := Lib.hid (D_g_0.out.below b19)
  replace D_h_0 := Lib.hid (D_h_0.out.below b19)
  replace B := Lib.hid (B.out.trans (b19.mono B.out.size))
  clear b19
  have c0_g_0 := D_g_0.out.c0
  have c1_g_0 := D_g_0.out.c1
  go_wp2_with fail
  clear c0_g_0 c1_g_0
  refine (held_bigsB _ (bigNegL ng0 zs0).length (1) _ _ (by simp) O_g_0.out.row (by omega)).mono ?_
  rintro e w20 ⟨rfl, b20⟩
  have z20 := Lib.hid b20.size
  replace O_w_0 := Lib.hid (O_w_0.out.below b20)
  replace O_g_0 := Lib.hid (O_g_0.out.below b20)
  replace O_h_0 := Lib.hid (O_h_0.out.below b20)
  replace D_a0 := Lib.hid (D_a0.out.below b20)
  replace D_w_0 := Lib.hid (D_w_0.out.below b20)
  replace D_t2 := Lib.hid (D_t2.out.below b20)
  replace D_g_0 := Lib.hid (D_g_0.out.below b20)
  replace D_h_0 := Lib.hid (D_h_0.out.below b20)
  replace B := Lib.hid (B.out.trans (b20.mono B.out.size))
  clear b20
  go_wp2
  go_ret
  exact ⟨rfl, B.out⟩


end Go.Proofs.Ytofmpfcbdemcnaa
