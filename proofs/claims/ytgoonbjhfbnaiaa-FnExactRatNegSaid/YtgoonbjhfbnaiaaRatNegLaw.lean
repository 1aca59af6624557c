/- The exact law of RatNeg. -/
import Derived.Test.YtgoonbjhfbnaiaaSpecFn2
import Derived.Deep.CutBlock
import Derived.Deep.CutRange
import Derived.Deep.RegionHeld3
namespace Go.Proofs.Ytgoonbjhfbnaiaa
open Go.RowKit Go.WideShapes Go.ChangeShapes
set_option linter.unusedVariables false
set_option linter.unusedSimpArgs false
set_option maxHeartbeats 4000000 in
theorem law_ratNeg (W : World) (ng0 : Bool) (v0 : Value) (zs0 : List Int) (h0 : RowOf iV W v0 zs0) (d0 : Value) (ds0 : List Int) (k0 : RowOf iV W d0 ds0) (_ : True) :
    Calls Try.prog 8 #[.agg #[.bool ng0, v0, d0]] W fun e w' => e = .returned (.bool true) ∧ Below W.heap.size W w' := by
  have R0 := Lib.hid (show RowR W v0 zs0 d0 ds0 from ⟨h0, k0⟩)
  obtain ⟨a0, c0, rfl, hc0, hm0, hr0⟩ := h0
  obtain ⟨e0, f0, rfl, kc0, km0, kr0⟩ := k0
  clear hr0 kr0
  unfold maxLen at hm0 km0
  obtain ⟨m0, hm0'⟩ : ∃ n, zs0.length = n := ⟨_, rfl⟩
  obtain ⟨p0, hp0'⟩ : ∃ n, ds0.length = n := ⟨_, rfl⟩
  rw [hm0'] at hc0 R0 ⊢
  rw [hp0'] at kc0 R0 ⊢
  have N0 := Lib.hid (And.intro hm0' hp0')
  clear hm0' hp0'
  by_cases hl0 : m0 + p0 ≤ 1048576
  rotate_left
  · go_enter Try.func8, Try.ntmps8
    go_wp2_with fail
    obtain ⟨W0, hW0⟩ : ∃ x, x = (W.alloc (.cells #[.bool ng0, .slice a0 m0 c0, .slice e0 p0 f0] 26)) := ⟨_, rfl⟩
    have B := Lib.hid (show Below W.heap.size W W0 by rw [hW0]; exact (Below.refl W.heap.size W).alloc (Nat.le_refl _) (.cells #[.bool ng0, .slice a0 m0 c0, .slice e0 p0 f0] 26))
    have D_a0 := Lib.hid (rx_at (show Rx W0 _ 26 ng0 (.slice a0 m0 c0) (.slice e0 p0 f0) by rw [hW0]; exact Rx.new _ _ _ _ _) (show W.heap.size = _ by simp))
    rw [← hW0]
    clear hW0
    refine (sz_rat_no ng0 a0 m0 c0 e0 p0 f0 (1048576) _ (by omega) (by omega)).mono ?_
    rintro e w1 ⟨rfl, bw1⟩
    replace D_a0 := Lib.hid (D_a0.out.below bw1)
    replace B := Lib.hid (B.out.trans (bw1.mono B.out.size))
    have z_w1 := Lib.hid bw1.size
    clear bw1
    go_wp2
    go_ret
    exact ⟨rfl, B.out⟩
  go_enter Try.func8, Try.ntmps8
  go_wp2_with fail
  obtain ⟨W0, hW0⟩ : ∃ x, x = (W.alloc (.cells #[.bool ng0, .slice a0 m0 c0, .slice e0 p0 f0] 26)) := ⟨_, rfl⟩
  have B := Lib.hid (show Below W.heap.size W W0 by rw [hW0]; exact (Below.refl W.heap.size W).alloc (Nat.le_refl _) (.cells #[.bool ng0, .slice a0 m0 c0, .slice e0 p0 f0] 26))
  have D_a0 := Lib.hid (rx_at (show Rx W0 _ 26 ng0 (.slice a0 m0 c0) (.slice e0 p0 f0) by rw [hW0]; exact Rx.new _ _ _ _ _) (show W.heap.size = _ by simp))
  rw [← hW0]
  clear hW0
  refine (sz_rat_yes ng0 a0 m0 c0 e0 p0 f0 (1048576) _ (by omega) (by omega)).mono ?_
  rintro e w1 ⟨rfl, bw1⟩
  replace D_a0 := Lib.hid (D_a0.out.below bw1)
  replace B := Lib.hid (B.out.trans (bw1.mono B.out.size))
  have z_w1 := Lib.hid bw1.size
  clear bw1
  have z_s := Lib.hid (show W.heap.size ≤ w1.heap.size from B.out.size)
  have c0_a0 := D_a0.out.c0
  have c1_a0 := D_a0.out.c1
  have c2_a0 := D_a0.out.c2
  go_wp2_with fail
  clear c0_a0 c1_a0 c2_a0
  refine (to_ratsR _ zs0 _ ds0 _ (R0.out.below B.out) (by rw [N0.out.1]; omega) (by rw [N0.out.2]; omega)).mono ?_
  rintro e w2 ⟨v_t1, d_t1, rfl, o_t1, bw2⟩
  obtain ⟨a_t1, c_t1, e_t1, f_t1, rfl, rfl⟩ := o_t1.slices
  replace D_a0 := Lib.hid (D_a0.out.below bw2)
  replace B := Lib.hid (B.out.trans (bw2.mono B.out.size))
  have z_w2 := Lib.hid bw2.size
  have O_t1 := Lib.hid o_t1
  have L_t1 := Lib.hid o_t1.lt
  clear o_t1
  clear bw2
  go_wp2_with fail
  refine (spec_ratNeg ng0 _ zs0 _ ds0 _ O_t1.out.row).mono ?_
  rintro e w3 ⟨v_w0, d_w0, rfl, o_w0, bw3⟩
  obtain ⟨a_w0, c_w0, e_w0, f_w0, rfl, rfl⟩ := o_w0.slices
  replace O_t1 := Lib.hid (O_t1.out.below bw3)
  replace D_a0 := Lib.hid (D_a0.out.below bw3)
  replace B := Lib.hid (B.out.trans (bw3.mono B.out.size))
  have z_w3 := Lib.hid bw3.size
  have O_w0 := Lib.hid o_w0
  have L_w0 := Lib.hid o_w0.lt
  clear o_w0
  clear bw3
  clear O_t1 L_t1
  have c0_a0 := D_a0.out.c0
  have c1_a0 := D_a0.out.c1
  have c2_a0 := D_a0.out.c2
  have lt_a0 := D_a0.out.lt
  have hz := B.out.size
  go_wp2_with fail
  clear c0_a0 c1_a0 c2_a0 lt_a0
  clear hz
  obtain ⟨w4, hW0⟩ : ∃ x, x = w3.alloc (.cells #[.bool (ratNegB ng0 zs0 ds0), .slice a_w0 (ratNegZ ng0 zs0 ds0).length c_w0, .slice e_w0 (ratNegD ng0 zs0 ds0).length f_w0] 31) := ⟨_, rfl⟩
  replace O_w0 := Lib.hid (show OwnR w4 _ _ _ _ _ by rw [hW0]; exact O_w0.out.alloc _)
  replace D_a0 := Lib.hid (show Rx w4 _ _ _ _ _ by rw [hW0]; exact D_a0.out.alloc _)
  have D_w0 := Lib.hid (show Rx w4 w3.heap.size 31 (ratNegB ng0 zs0 ds0) (.slice a_w0 (ratNegZ ng0 zs0 ds0).length c_w0) (.slice e_w0 (ratNegD ng0 zs0 ds0).length f_w0) by rw [hW0]; exact Rx.new _ _ _ _ _)
  replace B := Lib.hid (show Below W.heap.size W w4 by rw [hW0]; exact B.out.alloc B.out.size _)
  have z_w4 := Lib.hid (show w3.heap.size ≤ w4.heap.size by rw [hW0]; simp)
  rw [← hW0]
  clear hW0
  refine (to_ratsR _ zs0 _ ds0 _ (R0.out.below B.out) (by rw [N0.out.1]; omega) (by rw [N0.out.2]; omega)).mono ?_
  rintro e w5 ⟨v_t2, d_t2, rfl, o_t2, bw5⟩
  obtain ⟨a_t2, c_t2, e_t2, f_t2, rfl, rfl⟩ := o_t2.slices
  replace O_w0 := Lib.hid (O_w0.out.below bw5)
  replace D_a0 := Lib.hid (D_a0.out.below bw5)
  replace D_w0 := Lib.hid (D_w0.out.below bw5)
  replace B := Lib.hid (B.out.trans (bw5.mono B.out.size))
  have z_w5 := Lib.hid bw5.size
  have O_t2 := Lib.hid o_t2
  have L_t2 := Lib.hid o_t2.lt
  clear o_t2
  clear bw5
  have hz := B.out.size
  go_wp2_with fail
  clear hz
  obtain ⟨w6, hW0⟩ : ∃ x, x = w5.alloc (.cells #[.bool (ng0), .slice a_t2 (zs0).length c_t2, .slice e_t2 (ds0).length f_t2] 31) := ⟨_, rfl⟩
  replace O_w0 := Lib.hid (show OwnR w6 _ _ _ _ _ by rw [hW0]; exact O_w0.out.alloc _)
  replace O_t2 := Lib.hid (show OwnR w6 _ _ _ _ _ by rw [hW0]; exact O_t2.out.alloc _)
  replace D_a0 := Lib.hid (show Rx w6 _ _ _ _ _ by rw [hW0]; exact D_a0.out.alloc _)
  replace D_w0 := Lib.hid (show Rx w6 _ _ _ _ _ by rw [hW0]; exact D_w0.out.alloc _)
  have D_t2 := Lib.hid (show Rx w6 w5.heap.size 31 (ng0) (.slice a_t2 (zs0).length c_t2) (.slice e_t2 (ds0).length f_t2) by rw [hW0]; exact Rx.new _ _ _ _ _)
  replace B := Lib.hid (show Below W.heap.size W w6 by rw [hW0]; exact B.out.alloc B.out.size _)
  have z_w6 := Lib.hid (show w5.heap.size ≤ w6.heap.size by rw [hW0]; simp)
  rw [← hW0]
  clear hW0
  refine (impl_ratNeg ng0 _ zs0 _ ds0 _ O_t2.out.row).mono ?_
  rintro e w7 ⟨v_g0, d_g0, rfl, o_g0, bw7⟩
  obtain ⟨a_g0, c_g0, e_g0, f_g0, rfl, rfl⟩ := o_g0.slices
  replace O_w0 := Lib.hid (O_w0.out.below bw7)
  replace O_t2 := Lib.hid (O_t2.out.below bw7)
  replace D_a0 := Lib.hid (D_a0.out.below bw7)
  replace D_w0 := Lib.hid (D_w0.out.below bw7)
  replace D_t2 := Lib.hid (D_t2.out.below bw7)
  replace B := Lib.hid (B.out.trans (bw7.mono B.out.size))
  have z_w7 := Lib.hid bw7.size
  have O_g0 := Lib.hid o_g0
  have L_g0 := Lib.hid o_g0.lt
  clear o_g0
  clear bw7
  have c0_w0 := D_w0.out.c0
  have c1_w0 := D_w0.out.c1
  have c2_w0 := D_w0.out.c2
  have lt_w0 := D_w0.out.lt
  have hz := B.out.size
  go_wp2_with fail
  clear c0_w0 c1_w0 c2_w0 lt_w0
  clear hz
  obtain ⟨w8, hW0⟩ : ∃ x, x = w7.alloc (.cells #[.bool (ratNegB ng0 zs0 ds0), .slice a_g0 (ratNegZ ng0 zs0 ds0).length c_g0, .slice e_g0 (ratNegD ng0 zs0 ds0).length f_g0] 31) := ⟨_, rfl⟩
  replace O_w0 := Lib.hid (show OwnR w8 _ _ _ _ _ by rw [hW0]; exact O_w0.out.alloc _)
  replace O_t2 := Lib.hid (show OwnR w8 _ _ _ _ _ by rw [hW0]; exact O_t2.out.alloc _)
  replace O_g0 := Lib.hid (show OwnR w8 _ _ _ _ _ by rw [hW0]; exact O_g0.out.alloc _)
  replace D_a0 := Lib.hid (show Rx w8 _ _ _ _ _ by rw [hW0]; exact D_a0.out.alloc _)
  replace D_w0 := Lib.hid (show Rx w8 _ _ _ _ _ by rw [hW0]; exact D_w0.out.alloc _)
  replace D_t2 := Lib.hid (show Rx w8 _ _ _ _ _ by rw [hW0]; exact D_t2.out.alloc _)
  have D_g0 := Lib.hid (show Rx w8 w7.heap.size 31 (ratNegB ng0 zs0 ds0) (.slice a_g0 (ratNegZ ng0 zs0 ds0).length c_g0) (.slice e_g0 (ratNegD ng0 zs0 ds0).length f_g0) by rw [hW0]; exact Rx.new _ _ _ _ _)
  replace B := Lib.hid (show Below W.heap.size W w8 by rw [hW0]; exact B.out.alloc B.out.size _)
  have z_w8 := Lib.hid (show w7.heap.size ≤ w8.heap.size by rw [hW0]; simp)
  rw [← hW0]
  clear hW0
  refine (eq_ratsR _ _ _ _ _ _ _ O_g0.out.row O_w0.out.row).mono ?_
  rintro e w9 ⟨rfl, bw9⟩
  replace O_w0 := Lib.hid (O_w0.out.below bw9)
  replace O_t2 := Lib.hid (O_t2.out.below bw9)
  replace O_g0 := Lib.hid (O_g0.out.below bw9)
  replace D_a0 := Lib.hid (D_a0.out.below bw9)
  replace D_w0 := Lib.hid (D_w0.out.below bw9)
  replace D_t2 := Lib.hid (D_t2.out.below bw9)
  replace D_g0 := Lib.hid (D_g0.out.below bw9)
  replace B := Lib.hid (B.out.trans (bw9.mono B.out.size))
  have z_w9 := Lib.hid bw9.size
  clear bw9
  go_wp2_with fail
  have c0_t2 := D_t2.out.c0
  have c1_t2 := D_t2.out.c1
  have c2_t2 := D_t2.out.c2
  have lt_t2 := D_t2.out.lt
  have c0_a0 := D_a0.out.c0
  have c1_a0 := D_a0.out.c1
  have c2_a0 := D_a0.out.c2
  have lt_a0 := D_a0.out.lt
  go_region_held3 (fun w' => w'.cell? ⟨w5.heap.size, 0, none⟩ = some (.bool (ng0)) ∧ w'.cell? ⟨w5.heap.size, 1, none⟩ = some (.slice a_t2 (zs0).length c_t2) ∧ w'.cell? ⟨w5.heap.size, 2, none⟩ = some (.slice e_t2 (ds0).length f_t2) ∧ w'.cell? ⟨W.heap.size, 0, none⟩ = some (.bool ng0) ∧ w'.cell? ⟨W.heap.size, 1, none⟩ = some (.slice a0 m0 c0) ∧ w'.cell? ⟨W.heap.size, 2, none⟩ = some (.slice e0 p0 f0)) (first | exact ⟨g11_0_t2, g11_1_t2, g11_2_t2, g11_0_a0, g11_1_a0, g11_2_a0⟩ | exact ⟨g10_0_t2, g10_1_t2, g10_2_t2, g10_0_a0, g10_1_a0, g10_2_a0⟩ | exact ⟨c0_t2, c1_t2, c2_t2, c0_a0, c1_a0, c2_a0⟩)
    (first
      | (have := bb10; go_at_call 21; refine (eq_ratsR _ _ _ _ _ _ _ (O_t2.out.row.below bb10) o_t3.row).mono ?_; rintro e w11 ⟨rfl, bw11⟩; have bb11 : Below w9.heap.size w9 w11 := bb10.trans (bw11.mono bb10.size); have g11_0_t2 := (bb11.cell (p := ⟨w5.heap.size, 0, none⟩) lt_t2).trans c0_t2; have g11_1_t2 := (bb11.cell (p := ⟨w5.heap.size, 1, none⟩) lt_t2).trans c1_t2; have g11_2_t2 := (bb11.cell (p := ⟨w5.heap.size, 2, none⟩) lt_t2).trans c2_t2; have g11_0_a0 := (bb11.cell (p := ⟨W.heap.size, 0, none⟩) lt_a0).trans c0_a0; have g11_1_a0 := (bb11.cell (p := ⟨W.heap.size, 1, none⟩) lt_a0).trans c1_a0; have g11_2_a0 := (bb11.cell (p := ⟨W.heap.size, 2, none⟩) lt_a0).trans c2_a0)
      | (go_at_call 19; refine (to_ratsR _ zs0 _ ds0 _ (R0.out.below (B.out.trans (Below.mono (by first | exact Below.refl _ _ | exact (Below.refl _ _).drew) B.out.size))) (by rw [N0.out.1]; omega) (by rw [N0.out.2]; omega)).mono ?_; rintro e w10 ⟨v_t3, d_t3, rfl, o_t3, bw10⟩; obtain ⟨a_t3, c_t3, e_t3, f_t3, rfl, rfl⟩ := o_t3.slices; have bb10 : Below w9.heap.size w9 w10 := (by first | exact bw10 | exact ((Below.refl _ _).drew).trans bw10); have g10_0_t2 := (bb10.cell (p := ⟨w5.heap.size, 0, none⟩) lt_t2).trans c0_t2; have g10_1_t2 := (bb10.cell (p := ⟨w5.heap.size, 1, none⟩) lt_t2).trans c1_t2; have g10_2_t2 := (bb10.cell (p := ⟨w5.heap.size, 2, none⟩) lt_t2).trans c2_t2; have g10_0_a0 := (bb10.cell (p := ⟨W.heap.size, 0, none⟩) lt_a0).trans c0_a0; have g10_1_a0 := (bb10.cell (p := ⟨W.heap.size, 1, none⟩) lt_a0).trans c1_a0; have g10_2_a0 := (bb10.cell (p := ⟨W.heap.size, 2, none⟩) lt_a0).trans c2_a0))
  clear bw10
  have bw10 := bb10
  replace o_t3 : OwnR w10 w9.heap.size _ _ _ _ := o_t3
  replace O_w0 := Lib.hid (O_w0.out.below bw10)
  replace O_t2 := Lib.hid (O_t2.out.below bw10)
  replace O_g0 := Lib.hid (O_g0.out.below bw10)
  replace D_a0 := Lib.hid (D_a0.out.below bw10)
  replace D_w0 := Lib.hid (D_w0.out.below bw10)
  replace D_t2 := Lib.hid (D_t2.out.below bw10)
  replace D_g0 := Lib.hid (D_g0.out.below bw10)
  replace B := Lib.hid (B.out.trans (bw10.mono B.out.size))
  have z_w10 := Lib.hid bw10.size
  have O_t3 := Lib.hid o_t3
  have L_t3 := Lib.hid o_t3.lt
  clear o_t3
  clear bw10
  clear g10_0_t2 g10_1_t2 g10_2_t2
  clear g10_0_a0 g10_1_a0 g10_2_a0
  replace O_w0 := Lib.hid (O_w0.out.below bw11)
  replace O_t2 := Lib.hid (O_t2.out.below bw11)
  replace O_g0 := Lib.hid (O_g0.out.below bw11)
  replace O_t3 := Lib.hid (O_t3.out.below bw11)
  replace D_a0 := Lib.hid (D_a0.out.below bw11)
  replace D_w0 := Lib.hid (D_w0.out.below bw11)
  replace D_t2 := Lib.hid (D_t2.out.below bw11)
  replace D_g0 := Lib.hid (D_g0.out.below bw11)
  replace B := Lib.hid (B.out.trans (bw11.mono B.out.size))
  have z_w11 := Lib.hid bw11.size
  clear bw11
  clear g11_0_t2 g11_1_t2 g11_2_t2
  clear g11_0_a0 g11_1_a0 g11_2_a0
  clear bb10 bb11
  clear c0_t2 c1_t2 c2_t2 lt_t2
  clear c0_a0 c1_a0 c2_a0 lt_a0
  clear O_t3 L_t3
  have c0_t2 := D_t2.out.c0
  have c1_t2 := D_t2.out.c1
  have c2_t2 := D_t2.out.c2
  go_wp2_with fail
  clear c0_t2 c1_t2 c2_t2
  refine (mark_rats _ _ (1) _ _ _ _ _ (by simp) O_t2.out (by rw [N0.out.1, N0.out.2]; omega)).mono ?_
  rintro e w12 ⟨rfl, om, gw⟩
  have z_w12 := Lib.hid gw.size
  replace D_a0 := Lib.hid (D_a0.out.marked2 O_t2.out (by decide) gw)
  replace D_w0 := Lib.hid (D_w0.out.marked2 O_t2.out (by decide) gw)
  replace D_t2 := Lib.hid (D_t2.out.marked2 O_t2.out (by decide) gw)
  replace D_g0 := Lib.hid (D_g0.out.marked2 O_t2.out (by decide) gw)
  replace O_w0 := Lib.hid (O_w0.out.other2 gw (fun g g' e1 e2 => by have := L_w0.out g e1; have := L_t2.out g' e2; have := z_w1.out; have := z_w1.out; have := z_s.out; have := z_w2.out; have := z_w3.out; have := z_w4.out; have := z_w5.out; have := z_w6.out; have := z_w7.out; have := z_w8.out; have := z_w9.out; have := z_w10.out; have := z_w11.out; omega))
  replace O_g0 := Lib.hid (O_g0.out.other2 gw (fun g g' e1 e2 => by have := L_g0.out g e1; have := L_t2.out g' e2; have := z_w1.out; have := z_w1.out; have := z_s.out; have := z_w2.out; have := z_w3.out; have := z_w4.out; have := z_w5.out; have := z_w6.out; have := z_w7.out; have := z_w8.out; have := z_w9.out; have := z_w10.out; have := z_w11.out; omega))
  replace B := Lib.hid (below_grown2 B.out gw B.out.size (fun g hg => by have := L_t2.out g hg; have := z_w1.out; have := z_w1.out; have := z_s.out; have := z_w2.out; have := z_w3.out; have := z_w4.out; have := z_w5.out; have := z_w6.out; have := z_w7.out; have := z_w8.out; have := z_w9.out; have := z_w10.out; have := z_w11.out; have := B.out.size; omega))
  replace O_t2 := Lib.hid om
  clear om gw
  rw [N0.out.1, N0.out.2]
  clear O_t2 L_t2
  have c0_g0 := D_g0.out.c0
  have c1_g0 := D_g0.out.c1
  have c2_g0 := D_g0.out.c2
  have c0_w0 := D_w0.out.c0
  have c1_w0 := D_w0.out.c1
  have c2_w0 := D_w0.out.c2
  go_wp2_with fail
  clear c0_g0 c1_g0 c2_g0
  clear c0_w0 c1_w0 c2_w0
  refine (eq_ratsR _ _ _ _ _ _ _ O_g0.out.row O_w0.out.row).mono ?_
  rintro e w13 ⟨rfl, bw13⟩
  replace O_w0 := Lib.hid (O_w0.out.below bw13)
  replace O_g0 := Lib.hid (O_g0.out.below bw13)
  replace D_a0 := Lib.hid (D_a0.out.below bw13)
  replace D_w0 := Lib.hid (D_w0.out.below bw13)
  replace D_t2 := Lib.hid (D_t2.out.below bw13)
  replace D_g0 := Lib.hid (D_g0.out.below bw13)
  replace B := Lib.hid (B.out.trans (bw13.mono B.out.size))
  have z_w13 := Lib.hid bw13.size
  clear bw13
  have hlz := Lib.hid (ratNegZ_len ng0 zs0 ds0)
  have hld := Lib.hid (ratNegD_len ng0 zs0 ds0)
  have hqz : (ratNegZ ng0 zs0 ds0).length ≤ 1000 := hlz.out
  have hqd : (ratNegD ng0 zs0 ds0).length ≤ 1000 := hld.out
  have c0_g0 := D_g0.out.c0
  have c1_g0 := D_g0.out.c1
  have c2_g0 := D_g0.out.c2
  go_wp2_with fail
  clear c0_g0 c1_g0 c2_g0
  refine (mark_rats _ _ (1) _ _ _ _ _ (by simp) O_g0.out (by omega)).mono ?_
  rintro e w14 ⟨rfl, om, gw⟩
  have z_w14 := Lib.hid gw.size
  replace D_a0 := Lib.hid (D_a0.out.marked2 O_g0.out (by decide) gw)
  replace D_w0 := Lib.hid (D_w0.out.marked2 O_g0.out (by decide) gw)
  replace D_t2 := Lib.hid (D_t2.out.marked2 O_g0.out (by decide) gw)
  replace D_g0 := Lib.hid (D_g0.out.marked2 O_g0.out (by decide) gw)
  replace O_w0 := Lib.hid (O_w0.out.other2 gw (fun g g' e1 e2 => by have := L_w0.out g e1; have := L_g0.out g' e2; have := z_w1.out; have := z_w1.out; have := z_s.out; have := z_w2.out; have := z_w3.out; have := z_w4.out; have := z_w5.out; have := z_w6.out; have := z_w7.out; have := z_w8.out; have := z_w9.out; have := z_w10.out; have := z_w11.out; have := z_w12.out; have := z_w13.out; omega))
  replace B := Lib.hid (below_grown2 B.out gw B.out.size (fun g hg => by have := L_g0.out g hg; have := z_w1.out; have := z_w1.out; have := z_s.out; have := z_w2.out; have := z_w3.out; have := z_w4.out; have := z_w5.out; have := z_w6.out; have := z_w7.out; have := z_w8.out; have := z_w9.out; have := z_w10.out; have := z_w11.out; have := z_w12.out; have := z_w13.out; have := B.out.size; omega))
  replace O_g0 := Lib.hid om
  clear om gw
  have c0_g0 := D_g0.out.c0
  have c1_g0 := D_g0.out.c1
  have c2_g0 := D_g0.out.c2
  go_wp2_with fail
  clear c0_g0 c1_g0 c2_g0
  refine (held_ratsR _ _ (ratNegZ ng0 zs0 ds0).length (ratNegD ng0 zs0 ds0).length 1 _ _ (by simp) O_g0.out.row (by omega)).mono ?_
  rintro e w15 ⟨rfl, bw15⟩
  replace O_w0 := Lib.hid (O_w0.out.below bw15)
  replace O_g0 := Lib.hid (O_g0.out.below bw15)
  replace D_a0 := Lib.hid (D_a0.out.below bw15)
  replace D_w0 := Lib.hid (D_w0.out.below bw15)
  replace D_t2 := Lib.hid (D_t2.out.below bw15)
  replace D_g0 := Lib.hid (D_g0.out.below bw15)
  replace B := Lib.hid (B.out.trans (bw15.mono B.out.size))
  have z_w15 := Lib.hid bw15.size
  clear bw15
  have c0_a0 := D_a0.out.c0
  have c1_a0 := D_a0.out.c1
  have c2_a0 := D_a0.out.c2
  go_wp2_with fail
  clear c0_a0 c1_a0 c2_a0
  refine (to_ratsR _ zs0 _ ds0 _ (R0.out.below B.out) (by rw [N0.out.1]; omega) (by rw [N0.out.2]; omega)).mono ?_
  rintro e w16 ⟨v_t4, d_t4, rfl, o_t4, bw16⟩
  obtain ⟨a_t4, c_t4, e_t4, f_t4, rfl, rfl⟩ := o_t4.slices
  replace O_w0 := Lib.hid (O_w0.out.below bw16)
  replace O_g0 := Lib.hid (O_g0.out.below bw16)
  replace D_a0 := Lib.hid (D_a0.out.below bw16)
  replace D_w0 := Lib.hid (D_w0.out.below bw16)
  replace D_t2 := Lib.hid (D_t2.out.below bw16)
  replace D_g0 := Lib.hid (D_g0.out.below bw16)
  replace B := Lib.hid (B.out.trans (bw16.mono B.out.size))
  have z_w16 := Lib.hid bw16.size
  have O_t4 := Lib.hid o_t4
  have L_t4 := Lib.hid o_t4.lt
  clear o_t4
  clear bw16
  go_wp2_with fail
  refine (impl_ratNeg ng0 _ zs0 _ ds0 _ O_t4.out.row).mono ?_
  rintro e w17 ⟨v_h0, d_h0, rfl, o_h0, bw17⟩
  obtain ⟨a_h0, c_h0, e_h0, f_h0, rfl, rfl⟩ := o_h0.slices
  replace O_w0 := Lib.hid (O_w0.out.below bw17)
  replace O_g0 := Lib.hid (O_g0.out.below bw17)
  replace O_t4 := Lib.hid (O_t4.out.below bw17)
  replace D_a0 := Lib.hid (D_a0.out.below bw17)
  replace D_w0 := Lib.hid (D_w0.out.below bw17)
  replace D_t2 := Lib.hid (D_t2.out.below bw17)
  replace D_g0 := Lib.hid (D_g0.out.below bw17)
  replace B := Lib.hid (B.out.trans (bw17.mono B.out.size))
  have z_w17 := Lib.hid bw17.size
  have O_h0 := Lib.hid o_h0
  have L_h0 := Lib.hid o_h0.lt
  clear o_h0
  clear bw17
  clear O_t4 L_t4
  have c0_w0 := D_w0.out.c0
  have c1_w0 := D_w0.out.c1
  have c2_w0 := D_w0.out.c2
  have lt_w0 := D_w0.out.lt
  have hz := B.out.size
  go_wp2_with fail
  clear c0_w0 c1_w0 c2_w0 lt_w0
  clear hz
  obtain ⟨w18, hW0⟩ : ∃ x, x = w17.alloc (.cells #[.bool (ratNegB ng0 zs0 ds0), .slice a_h0 (ratNegZ ng0 zs0 ds0).length c_h0, .slice e_h0 (ratNegD ng0 zs0 ds0).length f_h0] 31) := ⟨_, rfl⟩
  replace O_w0 := Lib.hid (show OwnR w18 _ _ _ _ _ by rw [hW0]; exact O_w0.out.alloc _)
  replace O_g0 := Lib.hid (show OwnR w18 _ _ _ _ _ by rw [hW0]; exact O_g0.out.alloc _)
  replace O_h0 := Lib.hid (show OwnR w18 _ _ _ _ _ by rw [hW0]; exact O_h0.out.alloc _)
  replace D_a0 := Lib.hid (show Rx w18 _ _ _ _ _ by rw [hW0]; exact D_a0.out.alloc _)
  replace D_w0 := Lib.hid (show Rx w18 _ _ _ _ _ by rw [hW0]; exact D_w0.out.alloc _)
  replace D_t2 := Lib.hid (show Rx w18 _ _ _ _ _ by rw [hW0]; exact D_t2.out.alloc _)
  replace D_g0 := Lib.hid (show Rx w18 _ _ _ _ _ by rw [hW0]; exact D_g0.out.alloc _)
  have D_h0 := Lib.hid (show Rx w18 w17.heap.size 31 (ratNegB ng0 zs0 ds0) (.slice a_h0 (ratNegZ ng0 zs0 ds0).length c_h0) (.slice e_h0 (ratNegD ng0 zs0 ds0).length f_h0) by rw [hW0]; exact Rx.new _ _ _ _ _)
  replace B := Lib.hid (show Below W.heap.size W w18 by rw [hW0]; exact B.out.alloc B.out.size _)
  have z_w18 := Lib.hid (show w17.heap.size ≤ w18.heap.size by rw [hW0]; simp)
  rw [← hW0]
  clear hW0
  refine (eq_ratsR _ _ _ _ _ _ _ O_h0.out.row O_w0.out.row).mono ?_
  rintro e w19 ⟨rfl, bw19⟩
  replace O_w0 := Lib.hid (O_w0.out.below bw19)
  replace O_g0 := Lib.hid (O_g0.out.below bw19)
  replace O_h0 := Lib.hid (O_h0.out.below bw19)
  replace D_a0 := Lib.hid (D_a0.out.below bw19)
  replace D_w0 := Lib.hid (D_w0.out.below bw19)
  replace D_t2 := Lib.hid (D_t2.out.below bw19)
  replace D_g0 := Lib.hid (D_g0.out.below bw19)
  replace D_h0 := Lib.hid (D_h0.out.below bw19)
  replace B := Lib.hid (B.out.trans (bw19.mono B.out.size))
  have z_w19 := Lib.hid bw19.size
  clear bw19
  have c0_g0 := D_g0.out.c0
  have c1_g0 := D_g0.out.c1
  have c2_g0 := D_g0.out.c2
  go_wp2_with fail
  clear c0_g0 c1_g0 c2_g0
  refine (held_ratsR _ _ (ratNegZ ng0 zs0 ds0).length (ratNegD ng0 zs0 ds0).length 1 _ _ (by simp) O_g0.out.row (by omega)).mono ?_
  rintro e w20 ⟨rfl, bw20⟩
  replace O_w0 := Lib.hid (O_w0.out.below bw20)
  replace O_g0 := Lib.hid (O_g0.out.below bw20)
  replace O_h0 := Lib.hid (O_h0.out.below bw20)
  replace D_a0 := Lib.hid (D_a0.out.below bw20)
  replace D_w0 := Lib.hid (D_w0.out.below bw20)
  replace D_t2 := Lib.hid (D_t2.out.below bw20)
  replace D_g0 := Lib.hid (D_g0.out.below bw20)
  replace D_h0 := Lib.hid (D_h0.out.below bw20)
  replace B := Lib.hid (B.out.trans (bw20.mono B.out.size))
  have z_w20 := Lib.hid bw20.size
  clear bw20
  go_wp2
  go_ret
  exact ⟨rfl, B.out⟩


end Go.Proofs.Ytgoonbjhfbnaiaa
