/- The exact law of RatMake. -/
import Derived.Test.YtgoonbjhfbnaiaaRatMk
import Derived.Test.YtgoonbjhfbnaiaaLawMore
import Derived.Deep.CutBlock
import Derived.Deep.CutRange
import Derived.Deep.RegionHeld3
namespace Go.Proofs.Ytgoonbjhfbnaiaa
open Go.RowKit Go.WideShapes Go.ChangeShapes
set_option linter.unusedVariables false
set_option linter.unusedSimpArgs false
set_option maxHeartbeats 4000000 in
theorem law_ratMake (W : World) (ng0 : Bool) (v0 : Value) (zs0 : List Int) (h0 : RowOf iV W v0 zs0) (_ : True) (ng1 : Bool) (v1 : Value) (zs1 : List Int) (h1 : RowOf iV W v1 zs1) (_ : True) :
    Calls Try.prog 4 #[.agg #[.bool ng0, v0], .agg #[.bool ng1, v1]] W fun e w' => e = .returned (.bool true) ∧ Below W.heap.size W w' := by
  have R0 := Lib.hid h0
  obtain ⟨a0, c0, rfl, hc0, hm0, hr0⟩ := h0
  clear hr0
  unfold maxLen at hm0
  obtain ⟨m0, hm0'⟩ : ∃ n, zs0.length = n := ⟨_, rfl⟩
  rw [hm0'] at hc0 R0 ⊢
  have N0 := Lib.hid hm0'
  clear hm0'
  have R1 := Lib.hid h1
  obtain ⟨a1, c1, rfl, hc1, hm1, hr1⟩ := h1
  clear hr1
  unfold maxLen at hm1
  obtain ⟨m1, hm1'⟩ : ∃ n, zs1.length = n := ⟨_, rfl⟩
  rw [hm1'] at hc1 R1 ⊢
  have N1 := Lib.hid hm1'
  clear hm1'
  by_cases hl0 : m0 ≤ 1048576
  rotate_left
  · go_enter Try.func4, Try.ntmps4
    go_wp2_with fail
    obtain ⟨W0, hW0⟩ : ∃ x, x = ((W.alloc (.cells #[.bool ng0, .slice a0 m0 c0] 24)).alloc (.cells #[.bool ng1, .slice a1 m1 c1] 24)) := ⟨_, rfl⟩
    have B := Lib.hid (show Below W.heap.size W W0 by rw [hW0]; exact ((Below.refl W.heap.size W).alloc (Nat.le_refl _) (.cells #[.bool ng0, .slice a0 m0 c0] 24)).alloc (by simp) (.cells #[.bool ng1, .slice a1 m1 c1] 24))
    have D_a0 := Lib.hid (bx_at (show Bx W0 _ 24 ng0 (.slice a0 m0 c0) by rw [hW0]; exact (Bx.new _ _ _ _).alloc _) (show W.heap.size = _ by simp))
    have D_a1 := Lib.hid (bx_at (show Bx W0 _ 24 ng1 (.slice a1 m1 c1) by rw [hW0]; exact Bx.new _ _ _ _) (show (W.heap.size + 1) = _ by simp))
    rw [← hW0]
    clear hW0
    refine (sz_big_no ng0 a0 m0 c0 (1048576) _ (by omega) (by omega)).mono ?_
    rintro e w1 ⟨rfl, bw1⟩
    replace D_a0 := Lib.hid (D_a0.out.below bw1)
    replace D_a1 := Lib.hid (D_a1.out.below bw1)
    replace B := Lib.hid (B.out.trans (bw1.mono B.out.size))
    have z_w1 := Lib.hid bw1.size
    clear bw1
    go_wp2
    go_ret
    exact ⟨rfl, B.out⟩
  by_cases hl1 : m0 + m1 ≤ 1048576
  rotate_left
  · go_enter Try.func4, Try.ntmps4
    go_wp2_with fail
    obtain ⟨W0, hW0⟩ : ∃ x, x = ((W.alloc (.cells #[.bool ng0, .slice a0 m0 c0] 24)).alloc (.cells #[.bool ng1, .slice a1 m1 c1] 24)) := ⟨_, rfl⟩
    have B := Lib.hid (show Below W.heap.size W W0 by rw [hW0]; exact ((Below.refl W.heap.size W).alloc (Nat.le_refl _) (.cells #[.bool ng0, .slice a0 m0 c0] 24)).alloc (by simp) (.cells #[.bool ng1, .slice a1 m1 c1] 24))
    have D_a0 := Lib.hid (bx_at (show Bx W0 _ 24 ng0 (.slice a0 m0 c0) by rw [hW0]; exact (Bx.new _ _ _ _).alloc _) (show W.heap.size = _ by simp))
    have D_a1 := Lib.hid (bx_at (show Bx W0 _ 24 ng1 (.slice a1 m1 c1) by rw [hW0]; exact Bx.new _ _ _ _) (show (W.heap.size + 1) = _ by simp))
    rw [← hW0]
    clear hW0
    refine (sz_big_yes ng0 a0 m0 c0 (1048576) _ (by omega) (by omega)).mono ?_
    rintro e w1 ⟨rfl, bw1⟩
    replace D_a0 := Lib.hid (D_a0.out.below bw1)
    replace D_a1 := Lib.hid (D_a1.out.below bw1)
    replace B := Lib.hid (B.out.trans (bw1.mono B.out.size))
    have z_w1 := Lib.hid bw1.size
    clear bw1
    have c0_a1 := D_a1.out.c0
    have c1_a1 := D_a1.out.c1
    go_wp2_with fail
    clear c0_a1 c1_a1
    refine (sz_big_no ng1 a1 m1 c1 (1048576 - (m0 : Int)) _ (by omega) (by omega)).mono ?_
    rintro e w2 ⟨rfl, bw2⟩
    replace D_a0 := Lib.hid (D_a0.out.below bw2)
    replace D_a1 := Lib.hid (D_a1.out.below bw2)
    replace B := Lib.hid (B.out.trans (bw2.mono B.out.size))
    have z_w2 := Lib.hid bw2.size
    clear bw2
    go_wp2
    go_ret
    exact ⟨rfl, B.out⟩
  go_enter Try.func4, Try.ntmps4
  go_wp2_with fail
  obtain ⟨W0, hW0⟩ : ∃ x, x = ((W.alloc (.cells #[.bool ng0, .slice a0 m0 c0] 24)).alloc (.cells #[.bool ng1, .slice a1 m1 c1] 24)) := ⟨_, rfl⟩
  have B := Lib.hid (show Below W.heap.size W W0 by rw [hW0]; exact ((Below.refl W.heap.size W).alloc (Nat.le_refl _) (.cells #[.bool ng0, .slice a0 m0 c0] 24)).alloc (by simp) (.cells #[.bool ng1, .slice a1 m1 c1] 24))
  have D_a0 := Lib.hid (bx_at (show Bx W0 _ 24 ng0 (.slice a0 m0 c0) by rw [hW0]; exact (Bx.new _ _ _ _).alloc _) (show W.heap.size = _ by simp))
  have D_a1 := Lib.hid (bx_at (show Bx W0 _ 24 ng1 (.slice a1 m1 c1) by rw [hW0]; exact Bx.new _ _ _ _) (show (W.heap.size + 1) = _ by simp))
  rw [← hW0]
  clear hW0
  refine (sz_big_yes ng0 a0 m0 c0 (1048576) _ (by omega) (by omega)).mono ?_
  rintro e w1 ⟨rfl, bw1⟩
  replace D_a0 := Lib.hid (D_a0.out.below bw1)
  replace D_a1 := Lib.hid (D_a1.out.below bw1)
  replace B := Lib.hid (B.out.trans (bw1.mono B.out.size))
  have z_w1 := Lib.hid bw1.size
  clear bw1
  have c0_a1 := D_a1.out.c0
  have c1_a1 := D_a1.out.c1
  go_wp2_with fail
  clear c0_a1 c1_a1
  refine (sz_big_yes ng1 a1 m1 c1 (1048576 - (m0 : Int)) _ (by omega) (by omega)).mono ?_
  rintro e w2 ⟨rfl, bw2⟩
  replace D_a0 := Lib.hid (D_a0.out.below bw2)
  replace D_a1 := Lib.hid (D_a1.out.below bw2)
  replace B := Lib.hid (B.out.trans (bw2.mono B.out.size))
  have z_w2 := Lib.hid bw2.size
  clear bw2
  have z_s := Lib.hid (show W.heap.size ≤ w2.heap.size from B.out.size)
  go_upto_region 8 with fail
  have c0_a0 := D_a0.out.c0
  have c1_a0 := D_a0.out.c1
  have lt_a0 := D_a0.out.lt
  have c0_a1 := D_a1.out.c0
  have c1_a1 := D_a1.out.c1
  have lt_a1 := D_a1.out.lt
  go_cut [6] from 24 (fun q wc => ∃ (p : Nat) (a_w0 : Option Addr) (c_w0 : Nat) (e_w0 : Option Addr) (f_w0 : Nat), q = .pointer (some ⟨p, 0, none⟩) ∧ Hid (Rx wc p 31 (ratMakeB ng0 zs0 ng1 zs1) (.slice a_w0 (ratMakeZ ng0 zs0 ng1 zs1).length c_w0) (.slice e_w0 (ratMakeD ng0 zs0 ng1 zs1).length f_w0)) ∧ Hid (OwnR wc w2.heap.size (.slice a_w0 (ratMakeZ ng0 zs0 ng1 zs1).length c_w0) (ratMakeZ ng0 zs0 ng1 zs1) (.slice e_w0 (ratMakeD ng0 zs0 ng1 zs1).length f_w0) (ratMakeD ng0 zs0 ng1 zs1)) ∧ Hid (Below w2.heap.size w2 wc))
  case first =>
    go_region_held3 (fun w' => w'.cell? ⟨W.heap.size, 0, none⟩ = some (.bool ng0) ∧ w'.cell? ⟨W.heap.size, 1, none⟩ = some (.slice a0 m0 c0) ∧ w'.cell? ⟨(W.heap.size + 1), 0, none⟩ = some (.bool ng1) ∧ w'.cell? ⟨(W.heap.size + 1), 1, none⟩ = some (.slice a1 m1 c1)) (first | with_reducible exact ⟨g5_0_a0, g5_1_a0, g5_0_a1, g5_1_a1⟩ | with_reducible exact ⟨cell_alloc g5_0_a0 _, cell_alloc g5_1_a0 _, cell_alloc g5_0_a1 _, cell_alloc g5_1_a1 _⟩ | with_reducible exact ⟨g4_0_a0, g4_1_a0, g4_0_a1, g4_1_a1⟩ | with_reducible exact ⟨cell_alloc g4_0_a0 _, cell_alloc g4_1_a0 _, cell_alloc g4_0_a1 _, cell_alloc g4_1_a1 _⟩ | with_reducible exact ⟨g3_0_a0, g3_1_a0, g3_0_a1, g3_1_a1⟩ | with_reducible exact ⟨cell_alloc g3_0_a0 _, cell_alloc g3_1_a0 _, cell_alloc g3_0_a1 _, cell_alloc g3_1_a1 _⟩ | with_reducible exact ⟨c0_a0, c1_a0, c0_a1, c1_a1⟩ | with_reducible exact ⟨cell_drew c0_a0, cell_drew c1_a0, cell_drew c0_a1, cell_drew c1_a1⟩ | with_reducible exact ⟨cell_alloc c0_a0 _, cell_alloc c1_a0 _, cell_alloc c0_a1 _, cell_alloc c1_a1 _⟩ | with_reducible exact ⟨cell_drew (cell_alloc c0_a0 _), cell_drew (cell_alloc c1_a0 _), cell_drew (cell_alloc c0_a1 _), cell_drew (cell_alloc c1_a1 _)⟩ | with_reducible exact ⟨(cell_far3 (show W.heap.size ≠ _ from fun e => absurd pz (by omega)) _ _ _).trans g5_0_a0, (cell_far3 (show W.heap.size ≠ _ from fun e => absurd pz (by omega)) _ _ _).trans g5_1_a0, (cell_far3 (show (W.heap.size + 1) ≠ _ from fun e => absurd pz (by omega)) _ _ _).trans g5_0_a1, (cell_far3 (show (W.heap.size + 1) ≠ _ from fun e => absurd pz (by omega)) _ _ _).trans g5_1_a1⟩ | fail)
      (first
        | (have := bb4; go_at_call 23; refine (spec_ratMake ng0 _ zs0 ng1 _ zs1 _ (by first | with_reducible exact r_t1 | with_reducible exact rowOf_below r_t1 ((Below.refl _ _).alloc (Nat.le_refl _) _)) (by first | with_reducible exact o_t2.row | with_reducible exact rowOf_below o_t2.row ((Below.refl _ _).alloc (Nat.le_refl _) _))).mono ?_; rintro e w5 ⟨v_w0, d_w0, rfl, o_w0, bw5⟩; obtain ⟨a_w0, c_w0, e_w0, f_w0, rfl, rfl⟩ := o_w0.slices; have bb5 : Below w2.heap.size w2 w5 := (by first | with_reducible exact bb4.trans (bw5.mono bb4.size) | with_reducible exact (bb4.alloc bb4.size _).trans (bw5.mono (Nat.le_trans bb4.size (by simp)))); (try with_reducible (have dz := Rx.below dz bw5; have pz := pz)); (try with_reducible (have dz := (show Rx w5 w4.heap.size 31 false (.slice none 0 0) (.slice none 0 0) from Rx.below (Rx.new _ _ _ _ _) bw5); have pz : w2.heap.size ≤ w4.heap.size := bb4.size)); (try (have y0 := dz.c0; have y1 := dz.c1; have y2 := dz.c2; have y3 := dz.f 0; have y4 := dz.f 1; have y5 := dz.f 2)); have g5_0_a0 := (bb5.cell (p := ⟨W.heap.size, 0, none⟩) lt_a0).trans c0_a0; have g5_1_a0 := (bb5.cell (p := ⟨W.heap.size, 1, none⟩) lt_a0).trans c1_a0; have g5_0_a1 := (bb5.cell (p := ⟨(W.heap.size + 1), 0, none⟩) lt_a1).trans c0_a1; have g5_1_a1 := (bb5.cell (p := ⟨(W.heap.size + 1), 1, none⟩) lt_a1).trans c1_a1)
        | (have := bb3; go_at_call 24; refine (to_bigs _ zs1 _ (rowOf_below R1.out (B.out.trans (Below.mono (by first | with_reducible exact bb3 | with_reducible exact bb3.alloc bb3.size _) B.out.size))) (by rw [N1.out]; omega)).mono ?_; rintro e w4 ⟨v_t2, rfl, o_t2, bw4⟩; obtain ⟨a_t2, c_t2, rfl⟩ := o_t2.slice; have bb4 : Below w2.heap.size w2 w4 := (by first | with_reducible exact bb3.trans (bw4.mono bb3.size) | with_reducible exact (bb3.alloc bb3.size _).trans (bw4.mono (Nat.le_trans bb3.size (by simp)))); (try with_reducible (have dz := Rx.below dz bw4; have pz := pz)); (try with_reducible (have dz := (show Rx w4 w3.heap.size 31 false (.slice none 0 0) (.slice none 0 0) from Rx.below (Rx.new _ _ _ _ _) bw4); have pz : w2.heap.size ≤ w3.heap.size := bb3.size)); (try (have y0 := dz.c0; have y1 := dz.c1; have y2 := dz.c2; have y3 := dz.f 0; have y4 := dz.f 1; have y5 := dz.f 2)); have r_t1 := (by first | with_reducible exact rowOf_below o_t1.row bw4 | with_reducible exact rowOf_below (rowOf_below o_t1.row ((Below.refl _ _).alloc (Nat.le_refl _) _)) bw4 : RowOf iV w4 _ _); have g4_0_a0 := (bb4.cell (p := ⟨W.heap.size, 0, none⟩) lt_a0).trans c0_a0; have g4_1_a0 := (bb4.cell (p := ⟨W.heap.size, 1, none⟩) lt_a0).trans c1_a0; have g4_0_a1 := (bb4.cell (p := ⟨(W.heap.size + 1), 0, none⟩) lt_a1).trans c0_a1; have g4_1_a1 := (bb4.cell (p := ⟨(W.heap.size + 1), 1, none⟩) lt_a1).trans c1_a1)
        | (go_at_call 24; refine (to_bigs _ zs0 _ (rowOf_below R0.out (B.out.trans (Below.mono (by first | with_reducible exact Below.refl _ _ | with_reducible exact (Below.refl _ _).drew | with_reducible exact (((Below.refl _ _).drew).alloc (Nat.le_refl _) _) | with_reducible exact ((Below.refl _ _).alloc (Nat.le_refl _) _) | with_reducible exact (((Below.refl _ _).alloc (Nat.le_refl _) _).drew)) B.out.size))) (by rw [N0.out]; omega)).mono ?_; rintro e w3 ⟨v_t1, rfl, o_t1, bw3⟩; obtain ⟨a_t1, c_t1, rfl⟩ := o_t1.slice; have bb3 : Below w2.heap.size w2 w3 := (by first | with_reducible exact bw3 | with_reducible exact ((Below.refl _ _).drew).trans (bw3.mono (le_drew _)) | with_reducible exact (((Below.refl _ _).drew).alloc (Nat.le_refl _) _).trans (bw3.mono (by simp)) | with_reducible exact ((Below.refl _ _).alloc (Nat.le_refl _) _).trans (bw3.mono (by simp)) | with_reducible exact (((Below.refl _ _).alloc (Nat.le_refl _) _).drew).trans (bw3.mono (le_alloc_drew _ _))); (try with_reducible (have dz := (show Rx w3 w2.heap.size 31 false (.slice none 0 0) (.slice none 0 0) from Rx.below (show Rx (World.drew (w2.alloc (.cells #[.bool false, .slice none 0 0, .slice none 0 0] 31))) w2.heap.size 31 false (.slice none 0 0) (.slice none 0 0) from Rx.drew (Rx.new _ _ _ _ _)) bw3); have pz : w2.heap.size ≤ w2.heap.size := Nat.le_refl _)); (try (have y0 := dz.c0; have y1 := dz.c1; have y2 := dz.c2; have y3 := dz.f 0; have y4 := dz.f 1; have y5 := dz.f 2)); have g3_0_a0 := (bb3.cell (p := ⟨W.heap.size, 0, none⟩) lt_a0).trans c0_a0; have g3_1_a0 := (bb3.cell (p := ⟨W.heap.size, 1, none⟩) lt_a0).trans c1_a0; have g3_0_a1 := (bb3.cell (p := ⟨(W.heap.size + 1), 0, none⟩) lt_a1).trans c0_a1; have g3_1_a1 := (bb3.cell (p := ⟨(W.heap.size + 1), 1, none⟩) lt_a1).trans c1_a1))
    all_goals go_wp2_with fail
    all_goals go_meet
    all_goals first
      | exact ⟨_, a_w0, c_w0, e_w0, f_w0, rfl, dz.set3, (o_w0.set3 dz (by decide) _ _).base (by first | exact bb4.size | exact Nat.le_trans bb4.size (by simp)), ((bb5.setCell pz _).setCell pz _).setCell pz _⟩
      | exact ⟨_, a_w0, c_w0, e_w0, f_w0, rfl, Rx.new _ _ _ _ _, (o_w0.alloc _).base bb4.size, bb5.alloc bb5.size _⟩
  obtain ⟨p_w0, a_w0, c_w0, e_w0, f_w0, rfl, hD, hO, hB⟩ := hcut
  obtain ⟨wc8, hwc⟩ : ∃ x, x = wc := ⟨_, rfl⟩
  rw [← hwc] at hD hO hB ⊢
  clear hwc
  clear c0_a0 c1_a0 lt_a0
  clear c0_a1 c1_a1 lt_a1
  replace D_a0 := Lib.hid (D_a0.out.below hB.out)
  replace D_a1 := Lib.hid (D_a1.out.below hB.out)
  have z_wc8 := Lib.hid hB.out.size
  replace B := Lib.hid (B.out.trans (hB.out.mono B.out.size))
  have D_w0 := hD
  have O_w0 := hO
  have L_w0 := Lib.hid hO.out.lt
  clear hD hO hB
  have c0_a0 := D_a0.out.c0
  have c1_a0 := D_a0.out.c1
  go_wp2_with fail
  clear c0_a0 c1_a0
  refine (to_bigs _ zs0 _ (rowOf_below R0.out B.out) (by rw [N0.out]; omega)).mono ?_
  rintro e w6 ⟨v_t3, rfl, o_t3, bw6⟩
  obtain ⟨a_t3, c_t3, rfl⟩ := o_t3.slice
  replace O_w0 := Lib.hid (O_w0.out.below bw6)
  replace D_a0 := Lib.hid (D_a0.out.below bw6)
  replace D_a1 := Lib.hid (D_a1.out.below bw6)
  replace D_w0 := Lib.hid (D_w0.out.below bw6)
  replace B := Lib.hid (B.out.trans (bw6.mono B.out.size))
  have z_w6 := Lib.hid bw6.size
  have O_t3 := Lib.hid o_t3
  have L_t3 := Lib.hid o_t3.lt
  clear o_t3
  clear bw6
  have c0_a1 := D_a1.out.c0
  have c1_a1 := D_a1.out.c1
  have lt_a1 := D_a1.out.lt
  have hz := B.out.size
  go_wp2_with fail
  clear c0_a1 c1_a1 lt_a1
  clear hz
  obtain ⟨w7, hW0⟩ : ∃ x, x = w6.alloc (.cells #[.bool (ng0), .slice a_t3 (zs0).length c_t3] 29) := ⟨_, rfl⟩
  replace O_w0 := Lib.hid (show OwnR w7 _ _ _ _ _ by rw [hW0]; exact O_w0.out.alloc _)
  replace O_t3 := Lib.hid (show OwnI w7 _ _ _ by rw [hW0]; exact O_t3.out.alloc _)
  replace D_a0 := Lib.hid (show Bx w7 _ _ _ _ by rw [hW0]; exact D_a0.out.alloc _)
  replace D_a1 := Lib.hid (show Bx w7 _ _ _ _ by rw [hW0]; exact D_a1.out.alloc _)
  replace D_w0 := Lib.hid (show Rx w7 _ _ _ _ _ by rw [hW0]; exact D_w0.out.alloc _)
  have D_t3 := Lib.hid (show Bx w7 w6.heap.size 29 (ng0) (.slice a_t3 (zs0).length c_t3) by rw [hW0]; exact Bx.new _ _ _ _)
  replace B := Lib.hid (show Below W.heap.size W w7 by rw [hW0]; exact B.out.alloc B.out.size _)
  have z_w7 := Lib.hid (show w6.heap.size ≤ w7.heap.size by rw [hW0]; simp)
  rw [← hW0]
  clear hW0
  refine (to_bigs _ zs1 _ (rowOf_below R1.out B.out) (by rw [N1.out]; omega)).mono ?_
  rintro e w8 ⟨v_t4, rfl, o_t4, bw8⟩
  obtain ⟨a_t4, c_t4, rfl⟩ := o_t4.slice
  replace O_w0 := Lib.hid (O_w0.out.below bw8)
  replace O_t3 := Lib.hid (O_t3.out.below bw8)
  replace D_a0 := Lib.hid (D_a0.out.below bw8)
  replace D_a1 := Lib.hid (D_a1.out.below bw8)
  replace D_w0 := Lib.hid (D_w0.out.below bw8)
  replace D_t3 := Lib.hid (D_t3.out.below bw8)
  replace B := Lib.hid (B.out.trans (bw8.mono B.out.size))
  have z_w8 := Lib.hid bw8.size
  have O_t4 := Lib.hid o_t4
  have L_t4 := Lib.hid o_t4.lt
  clear o_t4
  clear bw8
  have c0_t3 := D_t3.out.c0
  have c1_t3 := D_t3.out.c1
  have lt_t3 := D_t3.out.lt
  have hz := B.out.size
  go_wp2_with fail
  clear c0_t3 c1_t3 lt_t3
  clear hz
  obtain ⟨w9, hW0⟩ : ∃ x, x = w8.alloc (.cells #[.bool (ng1), .slice a_t4 (zs1).length c_t4] 29) := ⟨_, rfl⟩
  replace O_w0 := Lib.hid (show OwnR w9 _ _ _ _ _ by rw [hW0]; exact O_w0.out.alloc _)
  replace O_t3 := Lib.hid (show OwnI w9 _ _ _ by rw [hW0]; exact O_t3.out.alloc _)
  replace O_t4 := Lib.hid (show OwnI w9 _ _ _ by rw [hW0]; exact O_t4.out.alloc _)
  replace D_a0 := Lib.hid (show Bx w9 _ _ _ _ by rw [hW0]; exact D_a0.out.alloc _)
  replace D_a1 := Lib.hid (show Bx w9 _ _ _ _ by rw [hW0]; exact D_a1.out.alloc _)
  replace D_w0 := Lib.hid (show Rx w9 _ _ _ _ _ by rw [hW0]; exact D_w0.out.alloc _)
  replace D_t3 := Lib.hid (show Bx w9 _ _ _ _ by rw [hW0]; exact D_t3.out.alloc _)
  have D_t4 := Lib.hid (show Bx w9 w8.heap.size 29 (ng1) (.slice a_t4 (zs1).length c_t4) by rw [hW0]; exact Bx.new _ _ _ _)
  replace B := Lib.hid (show Below W.heap.size W w9 by rw [hW0]; exact B.out.alloc B.out.size _)
  have z_w9 := Lib.hid (show w8.heap.size ≤ w9.heap.size by rw [hW0]; simp)
  rw [← hW0]
  clear hW0
  refine (impl_ratMake ng0 _ zs0 ng1 _ zs1 _ O_t3.out.row O_t4.out.row).mono ?_
  rintro e w10 ⟨v_g0, d_g0, rfl, o_g0, bw10⟩
  obtain ⟨a_g0, c_g0, e_g0, f_g0, rfl, rfl⟩ := o_g0.slices
  replace O_w0 := Lib.hid (O_w0.out.below bw10)
  replace O_t3 := Lib.hid (O_t3.out.below bw10)
  replace O_t4 := Lib.hid (O_t4.out.below bw10)
  replace D_a0 := Lib.hid (D_a0.out.below bw10)
  replace D_a1 := Lib.hid (D_a1.out.below bw10)
  replace D_w0 := Lib.hid (D_w0.out.below bw10)
  replace D_t3 := Lib.hid (D_t3.out.below bw10)
  replace D_t4 := Lib.hid (D_t4.out.below bw10)
  replace B := Lib.hid (B.out.trans (bw10.mono B.out.size))
  have z_w10 := Lib.hid bw10.size
  have O_g0 := Lib.hid o_g0
  have L_g0 := Lib.hid o_g0.lt
  clear o_g0
  clear bw10
  have c0_w0 := D_w0.out.c0
  have c1_w0 := D_w0.out.c1
  have c2_w0 := D_w0.out.c2
  have lt_w0 := D_w0.out.lt
  have hz := B.out.size
  go_wp2_with fail
  clear c0_w0 c1_w0 c2_w0 lt_w0
  clear hz
  obtain ⟨w11, hW0⟩ : ∃ x, x = w10.alloc (.cells #[.bool (ratMakeB ng0 zs0 ng1 zs1), .slice a_g0 (ratMakeZ ng0 zs0 ng1 zs1).length c_g0, .slice e_g0 (ratMakeD ng0 zs0 ng1 zs1).length f_g0] 31) := ⟨_, rfl⟩
  replace O_w0 := Lib.hid (show OwnR w11 _ _ _ _ _ by rw [hW0]; exact O_w0.out.alloc _)
  replace O_t3 := Lib.hid (show OwnI w11 _ _ _ by rw [hW0]; exact O_t3.out.alloc _)
  replace O_t4 := Lib.hid (show OwnI w11 _ _ _ by rw [hW0]; exact O_t4.out.alloc _)
  replace O_g0 := Lib.hid (show OwnR w11 _ _ _ _ _ by rw [hW0]; exact O_g0.out.alloc _)
  replace D_a0 := Lib.hid (show Bx w11 _ _ _ _ by rw [hW0]; exact D_a0.out.alloc _)
  replace D_a1 := Lib.hid (show Bx w11 _ _ _ _ by rw [hW0]; exact D_a1.out.alloc _)
  replace D_w0 := Lib.hid (show Rx w11 _ _ _ _ _ by rw [hW0]; exact D_w0.out.alloc _)
  replace D_t3 := Lib.hid (show Bx w11 _ _ _ _ by rw [hW0]; exact D_t3.out.alloc _)
  replace D_t4 := Lib.hid (show Bx w11 _ _ _ _ by rw [hW0]; exact D_t4.out.alloc _)
  have D_g0 := Lib.hid (show Rx w11 w10.heap.size 31 (ratMakeB ng0 zs0 ng1 zs1) (.slice a_g0 (ratMakeZ ng0 zs0 ng1 zs1).length c_g0) (.slice e_g0 (ratMakeD ng0 zs0 ng1 zs1).length f_g0) by rw [hW0]; exact Rx.new _ _ _ _ _)
  replace B := Lib.hid (show Below W.heap.size W w11 by rw [hW0]; exact B.out.alloc B.out.size _)
  have z_w11 := Lib.hid (show w10.heap.size ≤ w11.heap.size by rw [hW0]; simp)
  rw [← hW0]
  clear hW0
  refine (eq_ratsR _ _ _ _ _ _ _ O_g0.out.row O_w0.out.row).mono ?_
  rintro e w12 ⟨rfl, bw12⟩
  replace O_w0 := Lib.hid (O_w0.out.below bw12)
  replace O_t3 := Lib.hid (O_t3.out.below bw12)
  replace O_t4 := Lib.hid (O_t4.out.below bw12)
  replace O_g0 := Lib.hid (O_g0.out.below bw12)
  replace D_a0 := Lib.hid (D_a0.out.below bw12)
  replace D_a1 := Lib.hid (D_a1.out.below bw12)
  replace D_w0 := Lib.hid (D_w0.out.below bw12)
  replace D_t3 := Lib.hid (D_t3.out.below bw12)
  replace D_t4 := Lib.hid (D_t4.out.below bw12)
  replace D_g0 := Lib.hid (D_g0.out.below bw12)
  replace B := Lib.hid (B.out.trans (bw12.mono B.out.size))
  have z_w12 := Lib.hid bw12.size
  clear bw12
  go_wp2_with fail
  have c0_t3 := D_t3.out.c0
  have c1_t3 := D_t3.out.c1
  have lt_t3 := D_t3.out.lt
  have c0_a0 := D_a0.out.c0
  have c1_a0 := D_a0.out.c1
  have lt_a0 := D_a0.out.lt
  go_region_held3 (fun w' => w'.cell? ⟨w6.heap.size, 0, none⟩ = some (.bool (ng0)) ∧ w'.cell? ⟨w6.heap.size, 1, none⟩ = some (.slice a_t3 (zs0).length c_t3) ∧ w'.cell? ⟨W.heap.size, 0, none⟩ = some (.bool ng0) ∧ w'.cell? ⟨W.heap.size, 1, none⟩ = some (.slice a0 m0 c0)) (first | exact ⟨g14_0_t3, g14_1_t3, g14_0_a0, g14_1_a0⟩ | exact ⟨g13_0_t3, g13_1_t3, g13_0_a0, g13_1_a0⟩ | exact ⟨c0_t3, c1_t3, c0_a0, c1_a0⟩)
    (first
      | (have := bb13; go_at_call 26; refine (eq_bigsB _ _ _ _ (rowOf_below O_t3.out.row bb13) o_t5.row).mono ?_; rintro e w14 ⟨rfl, bw14⟩; have bb14 : Below w12.heap.size w12 w14 := bb13.trans (bw14.mono bb13.size); have g14_0_t3 := (bb14.cell (p := ⟨w6.heap.size, 0, none⟩) lt_t3).trans c0_t3; have g14_1_t3 := (bb14.cell (p := ⟨w6.heap.size, 1, none⟩) lt_t3).trans c1_t3; have g14_0_a0 := (bb14.cell (p := ⟨W.heap.size, 0, none⟩) lt_a0).trans c0_a0; have g14_1_a0 := (bb14.cell (p := ⟨W.heap.size, 1, none⟩) lt_a0).trans c1_a0)
      | (go_at_call 24; refine (to_bigs _ zs0 _ (rowOf_below R0.out (B.out.trans (Below.mono (by first | exact Below.refl _ _ | exact (Below.refl _ _).drew) B.out.size))) (by rw [N0.out]; omega)).mono ?_; rintro e w13 ⟨v_t5, rfl, o_t5, bw13⟩; obtain ⟨a_t5, c_t5, rfl⟩ := o_t5.slice; have bb13 : Below w12.heap.size w12 w13 := (by first | exact bw13 | exact ((Below.refl _ _).drew).trans bw13); have g13_0_t3 := (bb13.cell (p := ⟨w6.heap.size, 0, none⟩) lt_t3).trans c0_t3; have g13_1_t3 := (bb13.cell (p := ⟨w6.heap.size, 1, none⟩) lt_t3).trans c1_t3; have g13_0_a0 := (bb13.cell (p := ⟨W.heap.size, 0, none⟩) lt_a0).trans c0_a0; have g13_1_a0 := (bb13.cell (p := ⟨W.heap.size, 1, none⟩) lt_a0).trans c1_a0))
  clear bw13
  have bw13 := bb13
  replace o_t5 : OwnI w13 w12.heap.size _ _ := o_t5
  replace O_w0 := Lib.hid (O_w0.out.below bw13)
  replace O_t3 := Lib.hid (O_t3.out.below bw13)
  replace O_t4 := Lib.hid (O_t4.out.below bw13)
  replace O_g0 := Lib.hid (O_g0.out.below bw13)
  replace D_a0 := Lib.hid (D_a0.out.below bw13)
  replace D_a1 := Lib.hid (D_a1.out.below bw13)
  replace D_w0 := Lib.hid (D_w0.out.below bw13)
  replace D_t3 := Lib.hid (D_t3.out.below bw13)
  replace D_t4 := Lib.hid (D_t4.out.below bw13)
  replace D_g0 := Lib.hid (D_g0.out.below bw13)
  replace B := Lib.hid (B.out.trans (bw13.mono B.out.size))
  have z_w13 := Lib.hid bw13.size
  have O_t5 := Lib.hid o_t5
  have L_t5 := Lib.hid o_t5.lt
  clear o_t5
  clear bw13
  clear g13_0_t3 g13_1_t3
  clear g13_0_a0 g13_1_a0
  replace O_w0 := Lib.hid (O_w0.out.below bw14)
  replace O_t3 := Lib.hid (O_t3.out.below bw14)
  replace O_t4 := Lib.hid (O_t4.out.below bw14)
  replace O_g0 := Lib.hid (O_g0.out.below bw14)
  replace O_t5 := Lib.hid (O_t5.out.below bw14)
  replace D_a0 := Lib.hid (D_a0.out.below bw14)
  replace D_a1 := Lib.hid (D_a1.out.below bw14)
  replace D_w0 := Lib.hid (D_w0.out.below bw14)
  replace D_t3 := Lib.hid (D_t3.out.below bw14)
  replace D_t4 := Lib.hid (D_t4.out.below bw14)
  replace D_g0 := Lib.hid (D_g0.out.below bw14)
  replace B := Lib.hid (B.out.trans (bw14.mono B.out.size))
  have z_w14 := Lib.hid bw14.size
  clear bw14
  clear g14_0_t3 g14_1_t3
  clear g14_0_a0 g14_1_a0
  clear bb13 bb14
  clear c0_t3 c1_t3 lt_t3
  clear c0_a0 c1_a0 lt_a0
  clear O_t5 L_t5
  go_wp2_with fail
  have c0_t4 := D_t4.out.c0
  have c1_t4 := D_t4.out.c1
  have lt_t4 := D_t4.out.lt
  have c0_a1 := D_a1.out.c0
  have c1_a1 := D_a1.out.c1
  have lt_a1 := D_a1.out.lt
  go_region_held3 (fun w' => w'.cell? ⟨w8.heap.size, 0, none⟩ = some (.bool (ng1)) ∧ w'.cell? ⟨w8.heap.size, 1, none⟩ = some (.slice a_t4 (zs1).length c_t4) ∧ w'.cell? ⟨(W.heap.size + 1), 0, none⟩ = some (.bool ng1) ∧ w'.cell? ⟨(W.heap.size + 1), 1, none⟩ = some (.slice a1 m1 c1)) (first | exact ⟨g16_0_t4, g16_1_t4, g16_0_a1, g16_1_a1⟩ | exact ⟨g15_0_t4, g15_1_t4, g15_0_a1, g15_1_a1⟩ | exact ⟨c0_t4, c1_t4, c0_a1, c1_a1⟩)
    (first
      | (have := bb15; go_at_call 26; refine (eq_bigsB _ _ _ _ (rowOf_below O_t4.out.row bb15) o_t6.row).mono ?_; rintro e w16 ⟨rfl, bw16⟩; have bb16 : Below w14.heap.size w14 w16 := bb15.trans (bw16.mono bb15.size); have g16_0_t4 := (bb16.cell (p := ⟨w8.heap.size, 0, none⟩) lt_t4).trans c0_t4; have g16_1_t4 := (bb16.cell (p := ⟨w8.heap.size, 1, none⟩) lt_t4).trans c1_t4; have g16_0_a1 := (bb16.cell (p := ⟨(W.heap.size + 1), 0, none⟩) lt_a1).trans c0_a1; have g16_1_a1 := (bb16.cell (p := ⟨(W.heap.size + 1), 1, none⟩) lt_a1).trans c1_a1)
      | (go_at_call 24; refine (to_bigs _ zs1 _ (rowOf_below R1.out (B.out.trans (Below.mono (by first | exact Below.refl _ _ | exact (Below.refl _ _).drew) B.out.size))) (by rw [N1.out]; omega)).mono ?_; rintro e w15 ⟨v_t6, rfl, o_t6, bw15⟩; obtain ⟨a_t6, c_t6, rfl⟩ := o_t6.slice; have bb15 : Below w14.heap.size w14 w15 := (by first | exact bw15 | exact ((Below.refl _ _).drew).trans bw15); have g15_0_t4 := (bb15.cell (p := ⟨w8.heap.size, 0, none⟩) lt_t4).trans c0_t4; have g15_1_t4 := (bb15.cell (p := ⟨w8.heap.size, 1, none⟩) lt_t4).trans c1_t4; have g15_0_a1 := (bb15.cell (p := ⟨(W.heap.size + 1), 0, none⟩) lt_a1).trans c0_a1; have g15_1_a1 := (bb15.cell (p := ⟨(W.heap.size + 1), 1, none⟩) lt_a1).trans c1_a1))
  clear bw15
  have bw15 := bb15
  replace o_t6 : OwnI w15 w14.heap.size _ _ := o_t6
  replace O_w0 := Lib.hid (O_w0.out.below bw15)
  replace O_t3 := Lib.hid (O_t3.out.below bw15)
  replace O_t4 := Lib.hid (O_t4.out.below bw15)
  replace O_g0 := Lib.hid (O_g0.out.below bw15)
  replace D_a0 := Lib.hid (D_a0.out.below bw15)
  replace D_a1 := Lib.hid (D_a1.out.below bw15)
  replace D_w0 := Lib.hid (D_w0.out.below bw15)
  replace D_t3 := Lib.hid (D_t3.out.below bw15)
  replace D_t4 := Lib.hid (D_t4.out.below bw15)
  replace D_g0 := Lib.hid (D_g0.out.below bw15)
  replace B := Lib.hid (B.out.trans (bw15.mono B.out.size))
  have z_w15 := Lib.hid bw15.size
  have O_t6 := Lib.hid o_t6
  have L_t6 := Lib.hid o_t6.lt
  clear o_t6
  clear bw15
  clear g15_0_t4 g15_1_t4
  clear g15_0_a1 g15_1_a1
  replace O_w0 := Lib.hid (O_w0.out.below bw16)
  replace O_t3 := Lib.hid (O_t3.out.below bw16)
  replace O_t4 := Lib.hid (O_t4.out.below bw16)
  replace O_g0 := Lib.hid (O_g0.out.below bw16)
  replace O_t6 := Lib.hid (O_t6.out.below bw16)
  replace D_a0 := Lib.hid (D_a0.out.below bw16)
  replace D_a1 := Lib.hid (D_a1.out.below bw16)
  replace D_w0 := Lib.hid (D_w0.out.below bw16)
  replace D_t3 := Lib.hid (D_t3.out.below bw16)
  replace D_t4 := Lib.hid (D_t4.out.below bw16)
  replace D_g0 := Lib.hid (D_g0.out.below bw16)
  replace B := Lib.hid (B.out.trans (bw16.mono B.out.size))
  have z_w16 := Lib.hid bw16.size
  clear bw16
  clear g16_0_t4 g16_1_t4
  clear g16_0_a1 g16_1_a1
  clear bb15 bb16
  clear c0_t4 c1_t4 lt_t4
  clear c0_a1 c1_a1 lt_a1
  clear O_t6 L_t6
  have c0_t3 := D_t3.out.c0
  have c1_t3 := D_t3.out.c1
  go_wp2_with fail
  clear c0_t3 c1_t3
  refine (mark_bigs _ (1) _ _ _ _ (by simp) O_t3.out (by rw [N0.out]; omega)).mono ?_
  rintro e w17 ⟨rfl, om, gw⟩
  have z_w17 := Lib.hid gw.size
  replace D_a0 := Lib.hid (D_a0.out.marked O_t3.out (by decide) gw)
  replace D_a1 := Lib.hid (D_a1.out.marked O_t3.out (by decide) gw)
  replace D_w0 := Lib.hid (D_w0.out.marked O_t3.out (by decide) gw)
  replace D_t3 := Lib.hid (D_t3.out.marked O_t3.out (by decide) gw)
  replace D_t4 := Lib.hid (D_t4.out.marked O_t3.out (by decide) gw)
  replace D_g0 := Lib.hid (D_g0.out.marked O_t3.out (by decide) gw)
  replace O_w0 := Lib.hid (O_w0.out.other1 gw (fun g g' e1 e2 => by have := L_w0.out g e1; have := L_t3.out g' e2; have := z_w1.out; have := z_w1.out; have := z_w2.out; have := z_w1.out; have := z_w2.out; have := z_s.out; have := z_wc8.out; have := z_w6.out; have := z_w7.out; have := z_w8.out; have := z_w9.out; have := z_w10.out; have := z_w11.out; have := z_w12.out; have := z_w13.out; have := z_w14.out; have := z_w15.out; have := z_w16.out; omega))
  replace O_t4 := Lib.hid (O_t4.out.other gw (fun g g' e1 e2 => by have := L_t4.out g e1; have := L_t3.out g' e2; have := z_w1.out; have := z_w1.out; have := z_w2.out; have := z_w1.out; have := z_w2.out; have := z_s.out; have := z_wc8.out; have := z_w6.out; have := z_w7.out; have := z_w8.out; have := z_w9.out; have := z_w10.out; have := z_w11.out; have := z_w12.out; have := z_w13.out; have := z_w14.out; have := z_w15.out; have := z_w16.out; omega))
  replace O_g0 := Lib.hid (O_g0.out.other1 gw (fun g g' e1 e2 => by have := L_g0.out g e1; have := L_t3.out g' e2; have := z_w1.out; have := z_w1.out; have := z_w2.out; have := z_w1.out; have := z_w2.out; have := z_s.out; have := z_wc8.out; have := z_w6.out; have := z_w7.out; have := z_w8.out; have := z_w9.out; have := z_w10.out; have := z_w11.out; have := z_w12.out; have := z_w13.out; have := z_w14.out; have := z_w15.out; have := z_w16.out; omega))
  replace B := Lib.hid (B.out.grown gw B.out.size (fun g hg => by have := L_t3.out g hg; have := z_w1.out; have := z_w1.out; have := z_w2.out; have := z_w1.out; have := z_w2.out; have := z_s.out; have := z_wc8.out; have := z_w6.out; have := z_w7.out; have := z_w8.out; have := z_w9.out; have := z_w10.out; have := z_w11.out; have := z_w12.out; have := z_w13.out; have := z_w14.out; have := z_w15.out; have := z_w16.out; have := B.out.size; omega))
  replace O_t3 := Lib.hid om
  clear om gw
  rw [N0.out]
  have c0_t4 := D_t4.out.c0
  have c1_t4 := D_t4.out.c1
  go_wp2_with fail
  clear c0_t4 c1_t4
  refine (mark_bigs _ (1 + m0) _ _ _ _ (by simp) O_t4.out (by rw [N1.out]; omega)).mono ?_
  rintro e w18 ⟨rfl, om, gw⟩
  have z_w18 := Lib.hid gw.size
  replace D_a0 := Lib.hid (D_a0.out.marked O_t4.out (by decide) gw)
  replace D_a1 := Lib.hid (D_a1.out.marked O_t4.out (by decide) gw)
  replace D_w0 := Lib.hid (D_w0.out.marked O_t4.out (by decide) gw)
  replace D_t3 := Lib.hid (D_t3.out.marked O_t4.out (by decide) gw)
  replace D_t4 := Lib.hid (D_t4.out.marked O_t4.out (by decide) gw)
  replace D_g0 := Lib.hid (D_g0.out.marked O_t4.out (by decide) gw)
  replace O_w0 := Lib.hid (O_w0.out.other1 gw (fun g g' e1 e2 => by have := L_w0.out g e1; have := L_t4.out g' e2; have := z_w1.out; have := z_w1.out; have := z_w2.out; have := z_w1.out; have := z_w2.out; have := z_s.out; have := z_wc8.out; have := z_w6.out; have := z_w7.out; have := z_w8.out; have := z_w9.out; have := z_w10.out; have := z_w11.out; have := z_w12.out; have := z_w13.out; have := z_w14.out; have := z_w15.out; have := z_w16.out; have := z_w17.out; omega))
  replace O_t3 := Lib.hid (O_t3.out.other gw (fun g g' e1 e2 => by have := L_t3.out g e1; have := L_t4.out g' e2; have := z_w1.out; have := z_w1.out; have := z_w2.out; have := z_w1.out; have := z_w2.out; have := z_s.out; have := z_wc8.out; have := z_w6.out; have := z_w7.out; have := z_w8.out; have := z_w9.out; have := z_w10.out; have := z_w11.out; have := z_w12.out; have := z_w13.out; have := z_w14.out; have := z_w15.out; have := z_w16.out; have := z_w17.out; omega))
  replace O_g0 := Lib.hid (O_g0.out.other1 gw (fun g g' e1 e2 => by have := L_g0.out g e1; have := L_t4.out g' e2; have := z_w1.out; have := z_w1.out; have := z_w2.out; have := z_w1.out; have := z_w2.out; have := z_s.out; have := z_wc8.out; have := z_w6.out; have := z_w7.out; have := z_w8.out; have := z_w9.out; have := z_w10.out; have := z_w11.out; have := z_w12.out; have := z_w13.out; have := z_w14.out; have := z_w15.out; have := z_w16.out; have := z_w17.out; omega))
  replace B := Lib.hid (B.out.grown gw B.out.size (fun g hg => by have := L_t4.out g hg; have := z_w1.out; have := z_w1.out; have := z_w2.out; have := z_w1.out; have := z_w2.out; have := z_s.out; have := z_wc8.out; have := z_w6.out; have := z_w7.out; have := z_w8.out; have := z_w9.out; have := z_w10.out; have := z_w11.out; have := z_w12.out; have := z_w13.out; have := z_w14.out; have := z_w15.out; have := z_w16.out; have := z_w17.out; have := B.out.size; omega))
  replace O_t4 := Lib.hid om
  clear om gw
  rw [N1.out]
  clear O_t3 L_t3
  clear O_t4 L_t4
  have c0_g0 := D_g0.out.c0
  have c1_g0 := D_g0.out.c1
  have c2_g0 := D_g0.out.c2
  have c0_w0 := D_w0.out.c0
  have c1_w0 := D_w0.out.c1
  have c2_w0 := D_w0.out.c2
  go_wp2_with fail
  clear c0_g0 c1_g0 c2_g0
  clear c0_w0 c1_w0 c2_w0
  refine (eq_ratsR _ _ _ _ _ _ _ O_g0.out.row O_w0.out.row).mono ?_
  rintro e w19 ⟨rfl, bw19⟩
  replace O_w0 := Lib.hid (O_w0.out.below bw19)
  replace O_g0 := Lib.hid (O_g0.out.below bw19)
  replace D_a0 := Lib.hid (D_a0.out.below bw19)
  replace D_a1 := Lib.hid (D_a1.out.below bw19)
  replace D_w0 := Lib.hid (D_w0.out.below bw19)
  replace D_t3 := Lib.hid (D_t3.out.below bw19)
  replace D_t4 := Lib.hid (D_t4.out.below bw19)
  replace D_g0 := Lib.hid (D_g0.out.below bw19)
  replace B := Lib.hid (B.out.trans (bw19.mono B.out.size))
  have z_w19 := Lib.hid bw19.size
  clear bw19
  have hlz := Lib.hid (ratMakeZ_len ng0 zs0 ng1 zs1)
  have hld := Lib.hid (ratMakeD_len ng0 zs0 ng1 zs1)
  have hqz : (ratMakeZ ng0 zs0 ng1 zs1).length ≤ 1000 := hlz.out
  have hqd : (ratMakeD ng0 zs0 ng1 zs1).length ≤ 1000 := hld.out
  have c0_g0 := D_g0.out.c0
  have c1_g0 := D_g0.out.c1
  have c2_g0 := D_g0.out.c2
  go_wp2_with fail
  clear c0_g0 c1_g0 c2_g0
  refine (mark_rats _ _ (1) _ _ _ _ _ (by simp) O_g0.out (by omega)).mono ?_
  rintro e w20 ⟨rfl, om, gw⟩
  have z_w20 := Lib.hid gw.size
  replace D_a0 := Lib.hid (D_a0.out.marked2 O_g0.out (by decide) gw)
  replace D_a1 := Lib.hid (D_a1.out.marked2 O_g0.out (by decide) gw)
  replace D_w0 := Lib.hid (D_w0.out.marked2 O_g0.out (by decide) gw)
  replace D_t3 := Lib.hid (D_t3.out.marked2 O_g0.out (by decide) gw)
  replace D_t4 := Lib.hid (D_t4.out.marked2 O_g0.out (by decide) gw)
  replace D_g0 := Lib.hid (D_g0.out.marked2 O_g0.out (by decide) gw)
  replace O_w0 := Lib.hid (O_w0.out.other2 gw (fun g g' e1 e2 => by have := L_w0.out g e1; have := L_g0.out g' e2; have := z_w1.out; have := z_w1.out; have := z_w2.out; have := z_w1.out; have := z_w2.out; have := z_s.out; have := z_wc8.out; have := z_w6.out; have := z_w7.out; have := z_w8.out; have := z_w9.out; have := z_w10.out; have := z_w11.out; have := z_w12.out; have := z_w13.out; have := z_w14.out; have := z_w15.out; have := z_w16.out; have := z_w17.out; have := z_w18.out; have := z_w19.out; omega))
  replace B := Lib.hid (below_grown2 B.out gw B.out.size (fun g hg => by have := L_g0.out g hg; have := z_w1.out; have := z_w1.out; have := z_w2.out; have := z_w1.out; have := z_w2.out; have := z_s.out; have := z_wc8.out; have := z_w6.out; have := z_w7.out; have := z_w8.out; have := z_w9.out; have := z_w10.out; have := z_w11.out; have := z_w12.out; have := z_w13.out; have := z_w14.out; have := z_w15.out; have := z_w16.out; have := z_w17.out; have := z_w18.out; have := z_w19.out; have := B.out.size; omega))
  replace O_g0 := Lib.hid om
  clear om gw
  have c0_g0 := D_g0.out.c0
  have c1_g0 := D_g0.out.c1
  have c2_g0 := D_g0.out.c2
  go_wp2_with fail
  clear c0_g0 c1_g0 c2_g0
  refine (held_ratsR _ _ (ratMakeZ ng0 zs0 ng1 zs1).length (ratMakeD ng0 zs0 ng1 zs1).length 1 _ _ (by simp) O_g0.out.row (by omega)).mono ?_
  rintro e w21 ⟨rfl, bw21⟩
  replace O_w0 := Lib.hid (O_w0.out.below bw21)
  replace O_g0 := Lib.hid (O_g0.out.below bw21)
  replace D_a0 := Lib.hid (D_a0.out.below bw21)
  replace D_a1 := Lib.hid (D_a1.out.below bw21)
  replace D_w0 := Lib.hid (D_w0.out.below bw21)
  replace D_t3 := Lib.hid (D_t3.out.below bw21)
  replace D_t4 := Lib.hid (D_t4.out.below bw21)
  replace D_g0 := Lib.hid (D_g0.out.below bw21)
  replace B := Lib.hid (B.out.trans (bw21.mono B.out.size))
  have z_w21 := Lib.hid bw21.size
  clear bw21
  go_upto_region 31 with fail
  have c0_a0 := D_a0.out.c0
  have c1_a0 := D_a0.out.c1
  have lt_a0 := D_a0.out.lt
  have c0_a1 := D_a1.out.c0
  have c1_a1 := D_a1.out.c1
  have lt_a1 := D_a1.out.lt
  go_cut [13] from 75 (fun q wc => ∃ (p : Nat) (a_h0 : Option Addr) (c_h0 : Nat) (e_h0 : Option Addr) (f_h0 : Nat), q = .pointer (some ⟨p, 0, none⟩) ∧ Hid (Rx wc p 31 (ratMakeB ng0 zs0 ng1 zs1) (.slice a_h0 (ratMakeZ ng0 zs0 ng1 zs1).length c_h0) (.slice e_h0 (ratMakeD ng0 zs0 ng1 zs1).length f_h0)) ∧ Hid (OwnR wc w21.heap.size (.slice a_h0 (ratMakeZ ng0 zs0 ng1 zs1).length c_h0) (ratMakeZ ng0 zs0 ng1 zs1) (.slice e_h0 (ratMakeD ng0 zs0 ng1 zs1).length f_h0) (ratMakeD ng0 zs0 ng1 zs1)) ∧ Hid (Below w21.heap.size w21 wc))
  case first =>
    go_region_held3 (fun w' => w'.cell? ⟨W.heap.size, 0, none⟩ = some (.bool ng0) ∧ w'.cell? ⟨W.heap.size, 1, none⟩ = some (.slice a0 m0 c0) ∧ w'.cell? ⟨(W.heap.size + 1), 0, none⟩ = some (.bool ng1) ∧ w'.cell? ⟨(W.heap.size + 1), 1, none⟩ = some (.slice a1 m1 c1)) (first | with_reducible exact ⟨g24_0_a0, g24_1_a0, g24_0_a1, g24_1_a1⟩ | with_reducible exact ⟨cell_alloc g24_0_a0 _, cell_alloc g24_1_a0 _, cell_alloc g24_0_a1 _, cell_alloc g24_1_a1 _⟩ | with_reducible exact ⟨g23_0_a0, g23_1_a0, g23_0_a1, g23_1_a1⟩ | with_reducible exact ⟨cell_alloc g23_0_a0 _, cell_alloc g23_1_a0 _, cell_alloc g23_0_a1 _, cell_alloc g23_1_a1 _⟩ | with_reducible exact ⟨g22_0_a0, g22_1_a0, g22_0_a1, g22_1_a1⟩ | with_reducible exact ⟨cell_alloc g22_0_a0 _, cell_alloc g22_1_a0 _, cell_alloc g22_0_a1 _, cell_alloc g22_1_a1 _⟩ | with_reducible exact ⟨c0_a0, c1_a0, c0_a1, c1_a1⟩ | with_reducible exact ⟨cell_drew c0_a0, cell_drew c1_a0, cell_drew c0_a1, cell_drew c1_a1⟩ | with_reducible exact ⟨cell_alloc c0_a0 _, cell_alloc c1_a0 _, cell_alloc c0_a1 _, cell_alloc c1_a1 _⟩ | with_reducible exact ⟨cell_drew (cell_alloc c0_a0 _), cell_drew (cell_alloc c1_a0 _), cell_drew (cell_alloc c0_a1 _), cell_drew (cell_alloc c1_a1 _)⟩ | with_reducible exact ⟨(cell_far3 (show W.heap.size ≠ _ from fun e => absurd pz (by omega)) _ _ _).trans g24_0_a0, (cell_far3 (show W.heap.size ≠ _ from fun e => absurd pz (by omega)) _ _ _).trans g24_1_a0, (cell_far3 (show (W.heap.size + 1) ≠ _ from fun e => absurd pz (by omega)) _ _ _).trans g24_0_a1, (cell_far3 (show (W.heap.size + 1) ≠ _ from fun e => absurd pz (by omega)) _ _ _).trans g24_1_a1⟩ | fail)
      (first
        | (have := bb23; go_at_call 25; refine (impl_ratMake ng0 _ zs0 ng1 _ zs1 _ (by first | with_reducible exact r_t7 | with_reducible exact rowOf_below r_t7 ((Below.refl _ _).alloc (Nat.le_refl _) _)) (by first | with_reducible exact o_t8.row | with_reducible exact rowOf_below o_t8.row ((Below.refl _ _).alloc (Nat.le_refl _) _))).mono ?_; rintro e w24 ⟨v_h0, d_h0, rfl, o_h0, bw24⟩; obtain ⟨a_h0, c_h0, e_h0, f_h0, rfl, rfl⟩ := o_h0.slices; have bb24 : Below w21.heap.size w21 w24 := (by first | with_reducible exact bb23.trans (bw24.mono bb23.size) | with_reducible exact (bb23.alloc bb23.size _).trans (bw24.mono (Nat.le_trans bb23.size (by simp)))); (try with_reducible (have dz := Rx.below dz bw24; have pz := pz)); (try with_reducible (have dz := (show Rx w24 w23.heap.size 31 false (.slice none 0 0) (.slice none 0 0) from Rx.below (Rx.new _ _ _ _ _) bw24); have pz : w21.heap.size ≤ w23.heap.size := bb23.size)); (try (have y0 := dz.c0; have y1 := dz.c1; have y2 := dz.c2; have y3 := dz.f 0; have y4 := dz.f 1; have y5 := dz.f 2)); have g24_0_a0 := (bb24.cell (p := ⟨W.heap.size, 0, none⟩) lt_a0).trans c0_a0; have g24_1_a0 := (bb24.cell (p := ⟨W.heap.size, 1, none⟩) lt_a0).trans c1_a0; have g24_0_a1 := (bb24.cell (p := ⟨(W.heap.size + 1), 0, none⟩) lt_a1).trans c0_a1; have g24_1_a1 := (bb24.cell (p := ⟨(W.heap.size + 1), 1, none⟩) lt_a1).trans c1_a1)
        | (have := bb22; go_at_call 24; refine (to_bigs _ zs1 _ (rowOf_below R1.out (B.out.trans (Below.mono (by first | with_reducible exact bb22 | with_reducible exact bb22.alloc bb22.size _) B.out.size))) (by rw [N1.out]; omega)).mono ?_; rintro e w23 ⟨v_t8, rfl, o_t8, bw23⟩; obtain ⟨a_t8, c_t8, rfl⟩ := o_t8.slice; have bb23 : Below w21.heap.size w21 w23 := (by first | with_reducible exact bb22.trans (bw23.mono bb22.size) | with_reducible exact (bb22.alloc bb22.size _).trans (bw23.mono (Nat.le_trans bb22.size (by simp)))); (try with_reducible (have dz := Rx.below dz bw23; have pz := pz)); (try with_reducible (have dz := (show Rx w23 w22.heap.size 31 false (.slice none 0 0) (.slice none 0 0) from Rx.below (Rx.new _ _ _ _ _) bw23); have pz : w21.heap.size ≤ w22.heap.size := bb22.size)); (try (have y0 := dz.c0; have y1 := dz.c1; have y2 := dz.c2; have y3 := dz.f 0; have y4 := dz.f 1; have y5 := dz.f 2)); have r_t7 := (by first | with_reducible exact rowOf_below o_t7.row bw23 | with_reducible exact rowOf_below (rowOf_below o_t7.row ((Below.refl _ _).alloc (Nat.le_refl _) _)) bw23 : RowOf iV w23 _ _); have g23_0_a0 := (bb23.cell (p := ⟨W.heap.size, 0, none⟩) lt_a0).trans c0_a0; have g23_1_a0 := (bb23.cell (p := ⟨W.heap.size, 1, none⟩) lt_a0).trans c1_a0; have g23_0_a1 := (bb23.cell (p := ⟨(W.heap.size + 1), 0, none⟩) lt_a1).trans c0_a1; have g23_1_a1 := (bb23.cell (p := ⟨(W.heap.size + 1), 1, none⟩) lt_a1).trans c1_a1)
        | (go_at_call 24; refine (to_bigs _ zs0 _ (rowOf_below R0.out (B.out.trans (Below.mono (by first | with_reducible exact Below.refl _ _ | with_reducible exact (Below.refl _ _).drew | with_reducible exact (((Below.refl _ _).drew).alloc (Nat.le_refl _) _) | with_reducible exact ((Below.refl _ _).alloc (Nat.le_refl _) _) | with_reducible exact (((Below.refl _ _).alloc (Nat.le_refl _) _).drew)) B.out.size))) (by rw [N0.out]; omega)).mono ?_; rintro e w22 ⟨v_t7, rfl, o_t7, bw22⟩; obtain ⟨a_t7, c_t7, rfl⟩ := o_t7.slice; have bb22 : Below w21.heap.size w21 w22 := (by first | with_reducible exact bw22 | with_reducible exact ((Below.refl _ _).drew).trans (bw22.mono (le_drew _)) | with_reducible exact (((Below.refl _ _).drew).alloc (Nat.le_refl _) _).trans (bw22.mono (by simp)) | with_reducible exact ((Below.refl _ _).alloc (Nat.le_refl _) _).trans (bw22.mono (by simp)) | with_reducible exact (((Below.refl _ _).alloc (Nat.le_refl _) _).drew).trans (bw22.mono (le_alloc_drew _ _))); (try with_reducible (have dz := (show Rx w22 w21.heap.size 31 false (.slice none 0 0) (.slice none 0 0) from Rx.below (show Rx (World.drew (w21.alloc (.cells #[.bool false, .slice none 0 0, .slice none 0 0] 31))) w21.heap.size 31 false (.slice none 0 0) (.slice none 0 0) from Rx.drew (Rx.new _ _ _ _ _)) bw22); have pz : w21.heap.size ≤ w21.heap.size := Nat.le_refl _)); (try (have y0 := dz.c0; have y1 := dz.c1; have y2 := dz.c2; have y3 := dz.f 0; have y4 := dz.f 1; have y5 := dz.f 2)); have g22_0_a0 := (bb22.cell (p := ⟨W.heap.size, 0, none⟩) lt_a0).trans c0_a0; have g22_1_a0 := (bb22.cell (p := ⟨W.heap.size, 1, none⟩) lt_a0).trans c1_a0; have g22_0_a1 := (bb22.cell (p := ⟨(W.heap.size + 1), 0, none⟩) lt_a1).trans c0_a1; have g22_1_a1 := (bb22.cell (p := ⟨(W.heap.size + 1), 1, none⟩) lt_a1).trans c1_a1))
    all_goals go_wp2_with fail
    all_goals go_meet
    all_goals first
      | exact ⟨_, a_h0, c_h0, e_h0, f_h0, rfl, dz.set3, (o_h0.set3 dz (by decide) _ _).base (by first | exact bb23.size | exact Nat.le_trans bb23.size (by simp)), ((bb24.setCell pz _).setCell pz _).setCell pz _⟩
      | exact ⟨_, a_h0, c_h0, e_h0, f_h0, rfl, Rx.new _ _ _ _ _, (o_h0.alloc _).base bb23.size, bb24.alloc bb24.size _⟩
  obtain ⟨p_h0, a_h0, c_h0, e_h0, f_h0, rfl, hD, hO, hB⟩ := hcut
  obtain ⟨wc31, hwc⟩ : ∃ x, x = wc := ⟨_, rfl⟩
  rw [← hwc] at hD hO hB ⊢
  clear hwc
  clear c0_a0 c1_a0 lt_a0
  clear c0_a1 c1_a1 lt_a1
  replace O_w0 := Lib.hid (O_w0.out.below hB.out)
  replace O_g0 := Lib.hid (O_g0.out.below hB.out)
  replace D_a0 := Lib.hid (D_a0.out.below hB.out)
  replace D_a1 := Lib.hid (D_a1.out.below hB.out)
  replace D_w0 := Lib.hid (D_w0.out.below hB.out)
  replace D_t3 := Lib.hid (D_t3.out.below hB.out)
  replace D_t4 := Lib.hid (D_t4.out.below hB.out)
  replace D_g0 := Lib.hid (D_g0.out.below hB.out)
  have z_wc31 := Lib.hid hB.out.size
  replace B := Lib.hid (B.out.trans (hB.out.mono B.out.size))
  have D_h0 := hD
  have O_h0 := hO
  have L_h0 := Lib.hid hO.out.lt
  clear hD hO hB
  have c0_h0 := D_h0.out.c0
  have c1_h0 := D_h0.out.c1
  have c2_h0 := D_h0.out.c2
  have c0_w0 := D_w0.out.c0
  have c1_w0 := D_w0.out.c1
  have c2_w0 := D_w0.out.c2
  go_wp2_with fail
  clear c0_h0 c1_h0 c2_h0
  clear c0_w0 c1_w0 c2_w0
  refine (eq_ratsR _ _ _ _ _ _ _ O_h0.out.row O_w0.out.row).mono ?_
  rintro e w25 ⟨rfl, bw25⟩
  replace O_w0 := Lib.hid (O_w0.out.below bw25)
  replace O_g0 := Lib.hid (O_g0.out.below bw25)
  replace O_h0 := Lib.hid (O_h0.out.below bw25)
  replace D_a0 := Lib.hid (D_a0.out.below bw25)
  replace D_a1 := Lib.hid (D_a1.out.below bw25)
  replace D_w0 := Lib.hid (D_w0.out.below bw25)
  replace D_t3 := Lib.hid (D_t3.out.below bw25)
  replace D_t4 := Lib.hid (D_t4.out.below bw25)
  replace D_g0 := Lib.hid (D_g0.out.below bw25)
  replace D_h0 := Lib.hid (D_h0.out.below bw25)
  replace B := Lib.hid (B.out.trans (bw25.mono B.out.size))
  have z_w25 := Lib.hid bw25.size
  clear bw25
  have c0_g0 := D_g0.out.c0
  have c1_g0 := D_g0.out.c1
  have c2_g0 := D_g0.out.c2
  go_wp2_with fail
  clear c0_g0 c1_g0 c2_g0
  refine (held_ratsR _ _ (ratMakeZ ng0 zs0 ng1 zs1).length (ratMakeD ng0 zs0 ng1 zs1).length 1 _ _ (by simp) O_g0.out.row (by omega)).mono ?_
  rintro e w26 ⟨rfl, bw26⟩
  replace O_w0 := Lib.hid (O_w0.out.below bw26)
  replace O_g0 := Lib.hid (O_g0.out.below bw26)
  replace O_h0 := Lib.hid (O_h0.out.below bw26)
  replace D_a0 := Lib.hid (D_a0.out.below bw26)
  replace D_a1 := Lib.hid (D_a1.out.below bw26)
  replace D_w0 := Lib.hid (D_w0.out.below bw26)
  replace D_t3 := Lib.hid (D_t3.out.below bw26)
  replace D_t4 := Lib.hid (D_t4.out.below bw26)
  replace D_g0 := Lib.hid (D_g0.out.below bw26)
  replace D_h0 := Lib.hid (D_h0.out.below bw26)
  replace B := Lib.hid (B.out.trans (bw26.mono B.out.size))
  have z_w26 := Lib.hid bw26.size
  clear bw26
  go_wp2
  go_ret
  exact ⟨rfl, B.out⟩


end Go.Proofs.Ytgoonbjhfbnaiaa
