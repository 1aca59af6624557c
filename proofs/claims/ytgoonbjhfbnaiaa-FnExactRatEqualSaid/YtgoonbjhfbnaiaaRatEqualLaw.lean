/- The exact law of RatEqual. -/
import Derived.Test.YtgoonbjhfbnaiaaRatEq2
import Derived.Deep.CutBlock
import Derived.Deep.CutRange
import Derived.Deep.RegionHeld3
namespace Go.Proofs.Ytgoonbjhfbnaiaa
open Go.RowKit Go.WideShapes Go.ChangeShapes
set_option linter.unusedVariables false
set_option linter.unusedSimpArgs false
set_option maxHeartbeats 4000000 in
theorem law_ratEqual (W : World) (ng0 : Bool) (v0 : Value) (zs0 : List Int) (h0 : RowOf iV W v0 zs0) (d0 : Value) (ds0 : List Int) (k0 : RowOf iV W d0 ds0) (_ : True) (ng1 : Bool) (v1 : Value) (zs1 : List Int) (h1 : RowOf iV W v1 zs1) (d1 : Value) (ds1 : List Int) (k1 : RowOf iV W d1 ds1) (_ : True) :
    Calls Try.prog 14 #[.agg #[.bool ng0, v0, d0], .agg #[.bool ng1, v1, d1]] W fun e w' => e = .returned (.bool true) ∧ Below W.heap.size W w' := by
  have R0 := Lib.hid (show RowR W v0 zs0 d0 ds0 from ⟨h0, k0⟩)
  obtain ⟨a0, c0, rfl, hc0, hm0, hr0⟩ := h0
  obtain ⟨e0, f0, rfl, kc0, km0, kr0⟩ := k0
  clear hr0 kr0
  unfold maxLen at hm0 km0
  obtain ⟨m0, hm0'⟩ : ∃ n, zs0.length = n := ⟨_, rfl⟩
  obtain ⟨p0, hp0'⟩ : ∃ n, ds0.length = n := ⟨_, rfl⟩
  rw [hm0'] at hc0 R0 ⊢
  rw [hp0'] at kc0 R0 ⊢
  have N0 := Lib.hid (And.intro hm0' hp0')
  clear hm0' hp0'
  have R1 := Lib.hid (show RowR W v1 zs1 d1 ds1 from ⟨h1, k1⟩)
  obtain ⟨a1, c1, rfl, hc1, hm1, hr1⟩ := h1
  obtain ⟨e1, f1, rfl, kc1, km1, kr1⟩ := k1
  clear hr1 kr1
  unfold maxLen at hm1 km1
  obtain ⟨m1, hm1'⟩ : ∃ n, zs1.length = n := ⟨_, rfl⟩
  obtain ⟨p1, hp1'⟩ : ∃ n, ds1.length = n := ⟨_, rfl⟩
  rw [hm1'] at hc1 R1 ⊢
  rw [hp1'] at kc1 R1 ⊢
  have N1 := Lib.hid (And.intro hm1' hp1')
  clear hm1' hp1'
  by_cases hl0 : m0 + p0 ≤ 1048576
  rotate_left
  · go_enter Try.func14, Try.ntmps14
    go_wp2_with fail
    obtain ⟨W0, hW0⟩ : ∃ x, x = ((W.alloc (.cells #[.bool ng0, .slice a0 m0 c0, .slice e0 p0 f0] 26)).alloc (.cells #[.bool ng1, .slice a1 m1 c1, .slice e1 p1 f1] 26)) := ⟨_, rfl⟩
    have B := Lib.hid (show Below W.heap.size W W0 by rw [hW0]; exact ((Below.refl W.heap.size W).alloc (Nat.le_refl _) (.cells #[.bool ng0, .slice a0 m0 c0, .slice e0 p0 f0] 26)).alloc (by simp) (.cells #[.bool ng1, .slice a1 m1 c1, .slice e1 p1 f1] 26))
    have D_a0 := Lib.hid (rx_at (show Rx W0 _ 26 ng0 (.slice a0 m0 c0) (.slice e0 p0 f0) by rw [hW0]; exact (Rx.new _ _ _ _ _).alloc _) (show W.heap.size = _ by simp))
    have D_a1 := Lib.hid (rx_at (show Rx W0 _ 26 ng1 (.slice a1 m1 c1) (.slice e1 p1 f1) by rw [hW0]; exact Rx.new _ _ _ _ _) (show (W.heap.size + 1) = _ by simp))
    rw [← hW0]
    clear hW0
    refine (sz_rat_no ng0 a0 m0 c0 e0 p0 f0 (1048576) _ (by omega) (by omega)).mono ?_
    rintro e w1 ⟨rfl, bw1⟩
    replace D_a0 := Lib.hid (D_a0.out.below bw1)
    replace D_a1 := Lib.hid (D_a1.out.below bw1)
    replace B := Lib.hid (B.out.trans (bw1.mono B.out.size))
    clear bw1
    go_wp2
    go_ret
    exact ⟨rfl, B.out⟩
  by_cases hl1 : m0 + p0 + m1 + p1 ≤ 1048576
  rotate_left
  · go_enter Try.func14, Try.ntmps14
    go_wp2_with fail
    obtain ⟨W0, hW0⟩ : ∃ x, x = ((W.alloc (.cells #[.bool ng0, .slice a0 m0 c0, .slice e0 p0 f0] 26)).alloc (.cells #[.bool ng1, .slice a1 m1 c1, .slice e1 p1 f1] 26)) := ⟨_, rfl⟩
    have B := Lib.hid (show Below W.heap.size W W0 by rw [hW0]; exact ((Below.refl W.heap.size W).alloc (Nat.le_refl _) (.cells #[.bool ng0, .slice a0 m0 c0, .slice e0 p0 f0] 26)).alloc (by simp) (.cells #[.bool ng1, .slice a1 m1 c1, .slice e1 p1 f1] 26))
    have D_a0 := Lib.hid (rx_at (show Rx W0 _ 26 ng0 (.slice a0 m0 c0) (.slice e0 p0 f0) by rw [hW0]; exact (Rx.new _ _ _ _ _).alloc _) (show W.heap.size = _ by simp))
    have D_a1 := Lib.hid (rx_at (show Rx W0 _ 26 ng1 (.slice a1 m1 c1) (.slice e1 p1 f1) by rw [hW0]; exact Rx.new _ _ _ _ _) (show (W.heap.size + 1) = _ by simp))
    rw [← hW0]
    clear hW0
    refine (sz_rat_yes ng0 a0 m0 c0 e0 p0 f0 (1048576) _ (by omega) (by omega)).mono ?_
    rintro e w1 ⟨rfl, bw1⟩
    replace D_a0 := Lib.hid (D_a0.out.below bw1)
    replace D_a1 := Lib.hid (D_a1.out.below bw1)
    replace B := Lib.hid (B.out.trans (bw1.mono B.out.size))
    clear bw1
    have c0_a1 := D_a1.out.c0
    have c1_a1 := D_a1.out.c1
    have c2_a1 := D_a1.out.c2
    go_wp2_with fail
    clear c0_a1 c1_a1 c2_a1
    refine (sz_rat_no ng1 a1 m1 c1 e1 p1 f1 (1048576 - (m0 : Int) - (p0 : Int)) _ (by omega) (by omega)).mono ?_
    rintro e w2 ⟨rfl, bw2⟩
    replace D_a0 := Lib.hid (D_a0.out.below bw2)
    replace D_a1 := Lib.hid (D_a1.out.below bw2)
    replace B := Lib.hid (B.out.trans (bw2.mono B.out.size))
    clear bw2
    go_wp2
    go_ret
    exact ⟨rfl, B.out⟩
  go_enter Try.func14, Try.ntmps14
  go_wp2_with fail
  obtain ⟨W0, hW0⟩ : ∃ x, x = ((W.alloc (.cells #[.bool ng0, .slice a0 m0 c0, .slice e0 p0 f0] 26)).alloc (.cells #[.bool ng1, .slice a1 m1 c1, .slice e1 p1 f1] 26)) := ⟨_, rfl⟩
  have B := Lib.hid (show Below W.heap.size W W0 by rw [hW0]; exact ((Below.refl W.heap.size W).alloc (Nat.le_refl _) (.cells #[.bool ng0, .slice a0 m0 c0, .slice e0 p0 f0] 26)).alloc (by simp) (.cells #[.bool ng1, .slice a1 m1 c1, .slice e1 p1 f1] 26))
  have D_a0 := Lib.hid (rx_at (show Rx W0 _ 26 ng0 (.slice a0 m0 c0) (.slice e0 p0 f0) by rw [hW0]; exact (Rx.new _ _ _ _ _).alloc _) (show W.heap.size = _ by simp))
  have D_a1 := Lib.hid (rx_at (show Rx W0 _ 26 ng1 (.slice a1 m1 c1) (.slice e1 p1 f1) by rw [hW0]; exact Rx.new _ _ _ _ _) (show (W.heap.size + 1) = _ by simp))
  rw [← hW0]
  clear hW0
  refine (sz_rat_yes ng0 a0 m0 c0 e0 p0 f0 (1048576) _ (by omega) (by omega)).mono ?_
  rintro e w1 ⟨rfl, bw1⟩
  replace D_a0 := Lib.hid (D_a0.out.below bw1)
  replace D_a1 := Lib.hid (D_a1.out.below bw1)
  replace B := Lib.hid (B.out.trans (bw1.mono B.out.size))
  clear bw1
  have c0_a1 := D_a1.out.c0
  have c1_a1 := D_a1.out.c1
  have c2_a1 := D_a1.out.c2
  go_wp2_with fail
  clear c0_a1 c1_a1 c2_a1
  refine (sz_rat_yes ng1 a1 m1 c1 e1 p1 f1 (1048576 - (m0 : Int) - (p0 : Int)) _ (by omega) (by omega)).mono ?_
  rintro e w2 ⟨rfl, bw2⟩
  replace D_a0 := Lib.hid (D_a0.out.below bw2)
  replace D_a1 := Lib.hid (D_a1.out.below bw2)
  replace B := Lib.hid (B.out.trans (bw2.mono B.out.size))
  clear bw2
  go_wp2_with fail
  have c0_a0 := D_a0.out.c0
  have c1_a0 := D_a0.out.c1
  have c2_a0 := D_a0.out.c2
  have lt_a0 := D_a0.out.lt
  have c0_a1 := D_a1.out.c0
  have c1_a1 := D_a1.out.c1
  have c2_a1 := D_a1.out.c2
  have lt_a1 := D_a1.out.lt
  go_region_held3 (fun w' => w'.cell? ⟨W.heap.size, 0, none⟩ = some (.bool ng0) ∧ w'.cell? ⟨W.heap.size, 1, none⟩ = some (.slice a0 m0 c0) ∧ w'.cell? ⟨W.heap.size, 2, none⟩ = some (.slice e0 p0 f0) ∧ w'.cell? ⟨(W.heap.size + 1), 0, none⟩ = some (.bool ng1) ∧ w'.cell? ⟨(W.heap.size + 1), 1, none⟩ = some (.slice a1 m1 c1) ∧ w'.cell? ⟨(W.heap.size + 1), 2, none⟩ = some (.slice e1 p1 f1)) (first | exact ⟨g5_0_a0, g5_1_a0, g5_2_a0, g5_0_a1, g5_1_a1, g5_2_a1⟩ | exact ⟨g4_0_a0, g4_1_a0, g4_2_a0, g4_0_a1, g4_1_a1, g4_2_a1⟩ | exact ⟨g3_0_a0, g3_1_a0, g3_2_a0, g3_0_a1, g3_1_a1, g3_2_a1⟩ | exact ⟨c0_a0, c1_a0, c2_a0, c0_a1, c1_a1, c2_a1⟩)
    (first
      | (have := bb4; go_at_call 48; refine (spec_ratEqualR ng0 _ zs0 _ ds0 ng1 _ zs1 _ ds1 _ (o_t1.row.below bw4) o_t2.row).mono ?_; rintro e w5 ⟨rfl, bw5⟩; have bb5 : Below w2.heap.size w2 w5 := bb4.trans (bw5.mono bb4.size); have g5_0_a0 := (bb5.cell (p := ⟨W.heap.size, 0, none⟩) lt_a0).trans c0_a0; have g5_1_a0 := (bb5.cell (p := ⟨W.heap.size, 1, none⟩) lt_a0).trans c1_a0; have g5_2_a0 := (bb5.cell (p := ⟨W.heap.size, 2, none⟩) lt_a0).trans c2_a0; have g5_0_a1 := (bb5.cell (p := ⟨(W.heap.size + 1), 0, none⟩) lt_a1).trans c0_a1; have g5_1_a1 := (bb5.cell (p := ⟨(W.heap.size + 1), 1, none⟩) lt_a1).trans c1_a1; have g5_2_a1 := (bb5.cell (p := ⟨(W.heap.size + 1), 2, none⟩) lt_a1).trans c2_a1)
      | (have := bb3; go_at_call 19; refine (to_ratsR _ zs1 _ ds1 _ (R1.out.below (B.out.trans (Below.mono bb3 B.out.size))) (by rw [N1.out.1]; omega) (by rw [N1.out.2]; omega)).mono ?_; rintro e w4 ⟨v_t2, d_t2, rfl, o_t2, bw4⟩; obtain ⟨a_t2, c_t2, e_t2, f_t2, rfl, rfl⟩ := o_t2.slices; have bb4 : Below w2.heap.size w2 w4 := bb3.trans (bw4.mono bb3.size); have g4_0_a0 := (bb4.cell (p := ⟨W.heap.size, 0, none⟩) lt_a0).trans c0_a0; have g4_1_a0 := (bb4.cell (p := ⟨W.heap.size, 1, none⟩) lt_a0).trans c1_a0; have g4_2_a0 := (bb4.cell (p := ⟨W.heap.size, 2, none⟩) lt_a0).trans c2_a0; have g4_0_a1 := (bb4.cell (p := ⟨(W.heap.size + 1), 0, none⟩) lt_a1).trans c0_a1; have g4_1_a1 := (bb4.cell (p := ⟨(W.heap.size + 1), 1, none⟩) lt_a1).trans c1_a1; have g4_2_a1 := (bb4.cell (p := ⟨(W.heap.size + 1), 2, none⟩) lt_a1).trans c2_a1)
      | (go_at_call 19; refine (to_ratsR _ zs0 _ ds0 _ (R0.out.below (B.out.trans (Below.mono (by first | exact Below.refl _ _ | exact (Below.refl _ _).drew) B.out.size))) (by rw [N0.out.1]; omega) (by rw [N0.out.2]; omega)).mono ?_; rintro e w3 ⟨v_t1, d_t1, rfl, o_t1, bw3⟩; obtain ⟨a_t1, c_t1, e_t1, f_t1, rfl, rfl⟩ := o_t1.slices; have bb3 : Below w2.heap.size w2 w3 := (by first | exact bw3 | exact ((Below.refl _ _).drew).trans bw3); have g3_0_a0 := (bb3.cell (p := ⟨W.heap.size, 0, none⟩) lt_a0).trans c0_a0; have g3_1_a0 := (bb3.cell (p := ⟨W.heap.size, 1, none⟩) lt_a0).trans c1_a0; have g3_2_a0 := (bb3.cell (p := ⟨W.heap.size, 2, none⟩) lt_a0).trans c2_a0; have g3_0_a1 := (bb3.cell (p := ⟨(W.heap.size + 1), 0, none⟩) lt_a1).trans c0_a1; have g3_1_a1 := (bb3.cell (p := ⟨(W.heap.size + 1), 1, none⟩) lt_a1).trans c1_a1; have g3_2_a1 := (bb3.cell (p := ⟨(W.heap.size + 1), 2, none⟩) lt_a1).trans c2_a1))
  clear bw3
  have bw3 := bb3
  replace o_t1 : OwnR w3 w2.heap.size _ _ _ _ := o_t1
  replace D_a0 := Lib.hid (D_a0.out.below bw3)
  replace D_a1 := Lib.hid (D_a1.out.below bw3)
  replace B := Lib.hid (B.out.trans (bw3.mono B.out.size))
  have O_t1 := Lib.hid o_t1
  clear o_t1
  clear bw3
  clear g3_0_a0 g3_1_a0 g3_2_a0
  clear g3_0_a1 g3_1_a1 g3_2_a1
  replace O_t1 := Lib.hid (O_t1.out.below bw4)
  replace D_a0 := Lib.hid (D_a0.out.below bw4)
  replace D_a1 := Lib.hid (D_a1.out.below bw4)
  replace B := Lib.hid (B.out.trans (bw4.mono B.out.size))
  have O_t2 := Lib.hid o_t2
  clear o_t2
  clear bw4
  clear g4_0_a0 g4_1_a0 g4_2_a0
  clear g4_0_a1 g4_1_a1 g4_2_a1
  replace O_t1 := Lib.hid (O_t1.out.below bw5)
  replace O_t2 := Lib.hid (O_t2.out.below bw5)
  replace D_a0 := Lib.hid (D_a0.out.below bw5)
  replace D_a1 := Lib.hid (D_a1.out.below bw5)
  replace B := Lib.hid (B.out.trans (bw5.mono B.out.size))
  clear bw5
  clear g5_0_a0 g5_1_a0 g5_2_a0
  clear g5_0_a1 g5_1_a1 g5_2_a1
  clear bb3 bb4 bb5
  clear c0_a0 c1_a0 c2_a0 lt_a0
  clear c0_a1 c1_a1 c2_a1 lt_a1
  clear O_t1
  clear O_t2
  have c0_a0 := D_a0.out.c0
  have c1_a0 := D_a0.out.c1
  have c2_a0 := D_a0.out.c2
  go_wp2_with fail
  clear c0_a0 c1_a0 c2_a0
  refine (to_ratsR _ zs0 _ ds0 _ (R0.out.below B.out) (by rw [N0.out.1]; omega) (by rw [N0.out.2]; omega)).mono ?_
  rintro e w6 ⟨v_t3, d_t3, rfl, o_t3, bw6⟩
  obtain ⟨a_t3, c_t3, e_t3, f_t3, rfl, rfl⟩ := o_t3.slices
  replace D_a0 := Lib.hid (D_a0.out.below bw6)
  replace D_a1 := Lib.hid (D_a1.out.below bw6)
  replace B := Lib.hid (B.out.trans (bw6.mono B.out.size))
  have O_t3 := Lib.hid o_t3
  clear o_t3
  clear bw6
  have c0_a1 := D_a1.out.c0
  have c1_a1 := D_a1.out.c1
  have c2_a1 := D_a1.out.c2
  have lt_a1 := D_a1.out.lt
  have hz := B.out.size
  go_wp2_with fail
  clear c0_a1 c1_a1 c2_a1 lt_a1
  clear hz
  obtain ⟨w7, hW0⟩ : ∃ x, x = w6.alloc (.cells #[.bool (ng0), .slice a_t3 (zs0).length c_t3, .slice e_t3 (ds0).length f_t3] 31) := ⟨_, rfl⟩
  replace O_t3 := Lib.hid (show OwnR w7 _ _ _ _ _ by rw [hW0]; exact O_t3.out.alloc _)
  replace D_a0 := Lib.hid (show Rx w7 _ _ _ _ _ by rw [hW0]; exact D_a0.out.alloc _)
  replace D_a1 := Lib.hid (show Rx w7 _ _ _ _ _ by rw [hW0]; exact D_a1.out.alloc _)
  have D_t3 := Lib.hid (show Rx w7 w6.heap.size 31 (ng0) (.slice a_t3 (zs0).length c_t3) (.slice e_t3 (ds0).length f_t3) by rw [hW0]; exact Rx.new _ _ _ _ _)
  replace B := Lib.hid (show Below W.heap.size W w7 by rw [hW0]; exact B.out.alloc B.out.size _)
  rw [← hW0]
  clear hW0
  refine (to_ratsR _ zs1 _ ds1 _ (R1.out.below B.out) (by rw [N1.out.1]; omega) (by rw [N1.out.2]; omega)).mono ?_
  rintro e w8 ⟨v_t4, d_t4, rfl, o_t4, bw8⟩
  obtain ⟨a_t4, c_t4, e_t4, f_t4, rfl, rfl⟩ := o_t4.slices
  replace O_t3 := Lib.hid (O_t3.out.below bw8)
  replace D_a0 := Lib.hid (D_a0.out.below bw8)
  replace D_a1 := Lib.hid (D_a1.out.below bw8)
  replace D_t3 := Lib.hid (D_t3.out.below bw8)
  replace B := Lib.hid (B.out.trans (bw8.mono B.out.size))
  have O_t4 := Lib.hid o_t4
  clear o_t4
  clear bw8
  have c0_t3 := D_t3.out.c0
  have c1_t3 := D_t3.out.c1
  have c2_t3 := D_t3.out.c2
  have lt_t3 := D_t3.out.lt
  have hz := B.out.size
  go_wp2_with fail
  clear c0_t3 c1_t3 c2_t3 lt_t3
  clear hz
  obtain ⟨w9, hW0⟩ : ∃ x, x = w8.alloc (.cells #[.bool (ng1), .slice a_t4 (zs1).length c_t4, .slice e_t4 (ds1).length f_t4] 31) := ⟨_, rfl⟩
  replace O_t3 := Lib.hid (show OwnR w9 _ _ _ _ _ by rw [hW0]; exact O_t3.out.alloc _)
  replace O_t4 := Lib.hid (show OwnR w9 _ _ _ _ _ by rw [hW0]; exact O_t4.out.alloc _)
  replace D_a0 := Lib.hid (show Rx w9 _ _ _ _ _ by rw [hW0]; exact D_a0.out.alloc _)
  replace D_a1 := Lib.hid (show Rx w9 _ _ _ _ _ by rw [hW0]; exact D_a1.out.alloc _)
  replace D_t3 := Lib.hid (show Rx w9 _ _ _ _ _ by rw [hW0]; exact D_t3.out.alloc _)
  have D_t4 := Lib.hid (show Rx w9 w8.heap.size 31 (ng1) (.slice a_t4 (zs1).length c_t4) (.slice e_t4 (ds1).length f_t4) by rw [hW0]; exact Rx.new _ _ _ _ _)
  replace B := Lib.hid (show Below W.heap.size W w9 by rw [hW0]; exact B.out.alloc B.out.size _)
  rw [← hW0]
  clear hW0
  refine (impl_ratEqualR ng0 _ zs0 _ ds0 ng1 _ zs1 _ ds1 _ O_t3.out.row O_t4.out.row).mono ?_
  rintro e w10 ⟨rfl, bw10⟩
  replace O_t3 := Lib.hid (O_t3.out.below bw10)
  replace O_t4 := Lib.hid (O_t4.out.below bw10)
  replace D_a0 := Lib.hid (D_a0.out.below bw10)
  replace D_a1 := Lib.hid (D_a1.out.below bw10)
  replace D_t3 := Lib.hid (D_t3.out.below bw10)
  replace D_t4 := Lib.hid (D_t4.out.below bw10)
  replace B := Lib.hid (B.out.trans (bw10.mono B.out.size))
  clear bw10
  go_wp2_with fail
  have c0_t3 := D_t3.out.c0
  have c1_t3 := D_t3.out.c1
  have c2_t3 := D_t3.out.c2
  have lt_t3 := D_t3.out.lt
  have c0_a0 := D_a0.out.c0
  have c1_a0 := D_a0.out.c1
  have c2_a0 := D_a0.out.c2
  have lt_a0 := D_a0.out.lt
  go_region_held3 (fun w' => w'.cell? ⟨w6.heap.size, 0, none⟩ = some (.bool (ng0)) ∧ w'.cell? ⟨w6.heap.size, 1, none⟩ = some (.slice a_t3 (zs0).length c_t3) ∧ w'.cell? ⟨w6.heap.size, 2, none⟩ = some (.slice e_t3 (ds0).length f_t3) ∧ w'.cell? ⟨W.heap.size, 0, none⟩ = some (.bool ng0) ∧ w'.cell? ⟨W.heap.size, 1, none⟩ = some (.slice a0 m0 c0) ∧ w'.cell? ⟨W.heap.size, 2, none⟩ = some (.slice e0 p0 f0)) (first | exact ⟨g12_0_t3, g12_1_t3, g12_2_t3, g12_0_a0, g12_1_a0, g12_2_a0⟩ | exact ⟨g11_0_t3, g11_1_t3, g11_2_t3, g11_0_a0, g11_1_a0, g11_2_a0⟩ | exact ⟨c0_t3, c1_t3, c2_t3, c0_a0, c1_a0, c2_a0⟩)
    (first
      | (have := bb11; go_at_call 21; refine (eq_ratsR _ _ _ _ _ _ _ (O_t3.out.row.below bb11) o_t5.row).mono ?_; rintro e w12 ⟨rfl, bw12⟩; have bb12 : Below w10.heap.size w10 w12 := bb11.trans (bw12.mono bb11.size); have g12_0_t3 := (bb12.cell (p := ⟨w6.heap.size, 0, none⟩) lt_t3).trans c0_t3; have g12_1_t3 := (bb12.cell (p := ⟨w6.heap.size, 1, none⟩) lt_t3).trans c1_t3; have g12_2_t3 := (bb12.cell (p := ⟨w6.heap.size, 2, none⟩) lt_t3).trans c2_t3; have g12_0_a0 := (bb12.cell (p := ⟨W.heap.size, 0, none⟩) lt_a0).trans c0_a0; have g12_1_a0 := (bb12.cell (p := ⟨W.heap.size, 1, none⟩) lt_a0).trans c1_a0; have g12_2_a0 := (bb12.cell (p := ⟨W.heap.size, 2, none⟩) lt_a0).trans c2_a0)
      | (go_at_call 19; refine (to_ratsR _ zs0 _ ds0 _ (R0.out.below (B.out.trans (Below.mono (by first | exact Below.refl _ _ | exact (Below.refl _ _).drew) B.out.size))) (by rw [N0.out.1]; omega) (by rw [N0.out.2]; omega)).mono ?_; rintro e w11 ⟨v_t5, d_t5, rfl, o_t5, bw11⟩; obtain ⟨a_t5, c_t5, e_t5, f_t5, rfl, rfl⟩ := o_t5.slices; have bb11 : Below w10.heap.size w10 w11 := (by first | exact bw11 | exact ((Below.refl _ _).drew).trans bw11); have g11_0_t3 := (bb11.cell (p := ⟨w6.heap.size, 0, none⟩) lt_t3).trans c0_t3; have g11_1_t3 := (bb11.cell (p := ⟨w6.heap.size, 1, none⟩) lt_t3).trans c1_t3; have g11_2_t3 := (bb11.cell (p := ⟨w6.heap.size, 2, none⟩) lt_t3).trans c2_t3; have g11_0_a0 := (bb11.cell (p := ⟨W.heap.size, 0, none⟩) lt_a0).trans c0_a0; have g11_1_a0 := (bb11.cell (p := ⟨W.heap.size, 1, none⟩) lt_a0).trans c1_a0; have g11_2_a0 := (bb11.cell (p := ⟨W.heap.size, 2, none⟩) lt_a0).trans c2_a0))
  clear bw11
  have bw11 := bb11
  replace o_t5 : OwnR w11 w10.heap.size _ _ _ _ := o_t5
  replace O_t3 := Lib.hid (O_t3.out.below bw11)
  replace O_t4 := Lib.hid (O_t4.out.below bw11)
  replace D_a0 := Lib.hid (D_a0.out.below bw11)
  replace D_a1 := Lib.hid (D_a1.out.below bw11)
  replace D_t3 := Lib.hid (D_t3.out.below bw11)
  replace D_t4 := Lib.hid (D_t4.out.below bw11)
  replace B := Lib.hid (B.out.trans (bw11.mono B.out.size))
  have O_t5 := Lib.hid o_t5
  clear o_t5
  clear bw11
  clear g11_0_t3 g11_1_t3 g11_2_t3
  clear g11_0_a0 g11_1_a0 g11_2_a0
  replace O_t3 := Lib.hid (O_t3.out.below bw12)
  replace O_t4 := Lib.hid (O_t4.out.below bw12)
  replace O_t5 := Lib.hid (O_t5.out.below bw12)
  replace D_a0 := Lib.hid (D_a0.out.below bw12)
  replace D_a1 := Lib.hid (D_a1.out.below bw12)
  replace D_t3 := Lib.hid (D_t3.out.below bw12)
  replace D_t4 := Lib.hid (D_t4.out.below bw12)
  replace B := Lib.hid (B.out.trans (bw12.mono B.out.size))
  clear bw12
  clear g12_0_t3 g12_1_t3 g12_2_t3
  clear g12_0_a0 g12_1_a0 g12_2_a0
  clear bb11 bb12
  clear c0_t3 c1_t3 c2_t3 lt_t3
  clear c0_a0 c1_a0 c2_a0 lt_a0
  clear O_t5
  go_wp2_with fail
  have c0_t4 := D_t4.out.c0
  have c1_t4 := D_t4.out.c1
  have c2_t4 := D_t4.out.c2
  have lt_t4 := D_t4.out.lt
  have c0_a1 := D_a1.out.c0
  have c1_a1 := D_a1.out.c1
  have c2_a1 := D_a1.out.c2
  have lt_a1 := D_a1.out.lt
  go_region_held3 (fun w' => w'.cell? ⟨w8.heap.size, 0, none⟩ = some (.bool (ng1)) ∧ w'.cell? ⟨w8.heap.size, 1, none⟩ = some (.slice a_t4 (zs1).length c_t4) ∧ w'.cell? ⟨w8.heap.size, 2, none⟩ = some (.slice e_t4 (ds1).length f_t4) ∧ w'.cell? ⟨(W.heap.size + 1), 0, none⟩ = some (.bool ng1) ∧ w'.cell? ⟨(W.heap.size + 1), 1, none⟩ = some (.slice a1 m1 c1) ∧ w'.cell? ⟨(W.heap.size + 1), 2, none⟩ = some (.slice e1 p1 f1)) (first | exact ⟨g14_0_t4, g14_1_t4, g14_2_t4, g14_0_a1, g14_1_a1, g14_2_a1⟩ | exact ⟨g13_0_t4, g13_1_t4, g13_2_t4, g13_0_a1, g13_1_a1, g13_2_a1⟩ | exact ⟨c0_t4, c1_t4, c2_t4, c0_a1, c1_a1, c2_a1⟩)
    (first
      | (have := bb13; go_at_call 21; refine (eq_ratsR _ _ _ _ _ _ _ (O_t4.out.row.below bb13) o_t6.row).mono ?_; rintro e w14 ⟨rfl, bw14⟩; have bb14 : Below w12.heap.size w12 w14 := bb13.trans (bw14.mono bb13.size); have g14_0_t4 := (bb14.cell (p := ⟨w8.heap.size, 0, none⟩) lt_t4).trans c0_t4; have g14_1_t4 := (bb14.cell (p := ⟨w8.heap.size, 1, none⟩) lt_t4).trans c1_t4; have g14_2_t4 := (bb14.cell (p := ⟨w8.heap.size, 2, none⟩) lt_t4).trans c2_t4; have g14_0_a1 := (bb14.cell (p := ⟨(W.heap.size + 1), 0, none⟩) lt_a1).trans c0_a1; have g14_1_a1 := (bb14.cell (p := ⟨(W.heap.size + 1), 1, none⟩) lt_a1).trans c1_a1; have g14_2_a1 := (bb14.cell (p := ⟨(W.heap.size + 1), 2, none⟩) lt_a1).trans c2_a1)
      | (go_at_call 19; refine (to_ratsR _ zs1 _ ds1 _ (R1.out.below (B.out.trans (Below.mono (by first | exact Below.refl _ _ | exact (Below.refl _ _).drew) B.out.size))) (by rw [N1.out.1]; omega) (by rw [N1.out.2]; omega)).mono ?_; rintro e w13 ⟨v_t6, d_t6, rfl, o_t6, bw13⟩; obtain ⟨a_t6, c_t6, e_t6, f_t6, rfl, rfl⟩ := o_t6.slices; have bb13 : Below w12.heap.size w12 w13 := (by first | exact bw13 | exact ((Below.refl _ _).drew).trans bw13); have g13_0_t4 := (bb13.cell (p := ⟨w8.heap.size, 0, none⟩) lt_t4).trans c0_t4; have g13_1_t4 := (bb13.cell (p := ⟨w8.heap.size, 1, none⟩) lt_t4).trans c1_t4; have g13_2_t4 := (bb13.cell (p := ⟨w8.heap.size, 2, none⟩) lt_t4).trans c2_t4; have g13_0_a1 := (bb13.cell (p := ⟨(W.heap.size + 1), 0, none⟩) lt_a1).trans c0_a1; have g13_1_a1 := (bb13.cell (p := ⟨(W.heap.size + 1), 1, none⟩) lt_a1).trans c1_a1; have g13_2_a1 := (bb13.cell (p := ⟨(W.heap.size + 1), 2, none⟩) lt_a1).trans c2_a1))
  clear bw13
  have bw13 := bb13
  replace o_t6 : OwnR w13 w12.heap.size _ _ _ _ := o_t6
  replace O_t3 := Lib.hid (O_t3.out.below bw13)
  replace O_t4 := Lib.hid (O_t4.out.below bw13)
  replace D_a0 := Lib.hid (D_a0.out.below bw13)
  replace D_a1 := Lib.hid (D_a1.out.below bw13)
  replace D_t3 := Lib.hid (D_t3.out.below bw13)
  replace D_t4 := Lib.hid (D_t4.out.below bw13)
  replace B := Lib.hid (B.out.trans (bw13.mono B.out.size))
  have O_t6 := Lib.hid o_t6
  clear o_t6
  clear bw13
  clear g13_0_t4 g13_1_t4 g13_2_t4
  clear g13_0_a1 g13_1_a1 g13_2_a1
  replace O_t3 := Lib.hid (O_t3.out.below bw14)
  replace O_t4 := Lib.hid (O_t4.out.below bw14)
  replace O_t6 := Lib.hid (O_t6.out.below bw14)
  replace D_a0 := Lib.hid (D_a0.out.below bw14)
  replace D_a1 := Lib.hid (D_a1.out.below bw14)
  replace D_t3 := Lib.hid (D_t3.out.below bw14)
  replace D_t4 := Lib.hid (D_t4.out.below bw14)
  replace B := Lib.hid (B.out.trans (bw14.mono B.out.size))
  clear bw14
  clear g14_0_t4 g14_1_t4 g14_2_t4
  clear g14_0_a1 g14_1_a1 g14_2_a1
  clear bb13 bb14
  clear c0_t4 c1_t4 c2_t4 lt_t4
  clear c0_a1 c1_a1 c2_a1 lt_a1
  clear O_t6
  go_wp2
  go_ret
  exact ⟨rfl, B.out⟩


end Go.Proofs.Ytgoonbjhfbnaiaa
