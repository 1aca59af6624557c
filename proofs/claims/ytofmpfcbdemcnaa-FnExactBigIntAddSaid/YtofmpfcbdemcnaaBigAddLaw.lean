/- The exact law of BigIntAdd. -/
import Derived.Test.YtofmpfcbdemcnaaBigOps
namespace Go.Proofs.Ytofmpfcbdemcnaa
open Go.RowKit

set_option maxHeartbeats 4000000 in
theorem law_bigIntAdd (W : World) (ng0 : Bool) (v0 : Value) (zs0 : List Int) (h0 : RowOf iV W v0 zs0) (_ : True) (ng1 : Bool) (v1 : Value) (zs1 : List Int) (h1 : RowOf iV W v1 zs1) (_ : True) :
    Calls Try.prog 7 #[.agg #[.bool ng0, v0], .agg #[.bool ng1, v1]] W fun e w' => e = .returned (.bool true) ∧ Below W.heap.size W w' := by
  have R0 := Lib.hid h0
  obtain ⟨a0, c0, rfl, hc0, hm0, hr0⟩ := h0
  clear hr0
  unfold maxLen at hm0
  obtain ⟨m0, hm0'⟩ : ∃ n, zs0.length = n := ⟨_, rfl⟩
  rw [hm0'] at hc0 R0 ⊢
  have N0 := Lib.hid hm0'
  clear hm0'
  have R1 := Lib.hid h1
  obtain ⟨a1, c1, rfl, hc1, hm1, hr1⟩ := h1
  clear hr1
  unfold maxLen at hm1
  obtain ⟨m1, hm1'⟩ : ∃ n, zs1.length = n := ⟨_, rfl⟩
  rw [hm1'] at hc1 R1 ⊢
  have N1 := Lib.hid hm1'
  clear hm1'
  by_cases hl0 : m0 ≤ 1048576
  rotate_left
  · go_enter Try.func7, Try.ntmps7
    go_wp2_with fail
    obtain ⟨W0, hW0⟩ : ∃ x, x = ((W.alloc (.cells #[.bool ng0, .slice a0 m0 c0] 24)).alloc (.cells #[.bool ng1, .slice a1 m1 c1] 24)) := ⟨_, rfl⟩
    have B := Lib.hid (show Below W.heap.size W W0 by rw [hW0]; exact ((Below.refl W.heap.size W).alloc (Nat.le_refl _) (.cells #[.bool ng0, .slice a0 m0 c0] 24)).alloc (by simp) (.cells #[.bool ng1, .slice a1 m1 c1] 24))
    have D_a0 := Lib.hid (bx_at (show Bx W0 _ 24 ng0 (.slice a0 m0 c0) by rw [hW0]; exact (Bx.new _ _ _ _).alloc _) (show W.heap.size = _ by simp))
    have D_a1 := Lib.hid (bx_at (show Bx W0 _ 24 ng1 (.slice a1 m1 c1) by rw [hW0]; exact Bx.new _ _ _ _) (show (W.heap.size + 1) = _ by simp))
    rw [← hW0]
    clear hW0
    refine (sz_big_no ng0 a0 m0 c0 (1048576) _ (by omega) (by omega)).mono ?_
    rintro e w0' ⟨rfl, bz0⟩
    replace D_a1 := Lib.hid (D_a1.out.below bz0)
    replace B := Lib.hid (B.out.trans (bz0.mono B.out.size))
    clear bz0
    go_wp2
    go_ret
    exact ⟨rfl, B.out⟩
  by_cases hl1 : m0 + m1 ≤ 1048576
  rotate_left
  · go_enter Try.func7, Try.ntmps7
    go_wp2_with fail
    obtain ⟨W0, hW0⟩ : ∃ x, x = ((W.alloc (.cells #[.bool ng0, .slice a0 m0 c0] 24)).alloc (.cells #[.bool ng1, .slice a1 m1 c1] 24)) := ⟨_, rfl⟩
    have B := Lib.hid (show Below W.heap.size W W0 by rw [hW0]; exact ((Below.refl W.heap.size W).alloc (Nat.le_refl _) (.cells #[.bool ng0, .slice a0 m0 c0] 24)).alloc (by simp) (.cells #[.bool ng1, .slice a1 m1 c1] 24))
    have D_a0 := Lib.hid (bx_at (show Bx W0 _ 24 ng0 (.slice a0 m0 c0) by rw [hW0]; exact (Bx.new _ _ _ _).alloc _) (show W.heap.size = _ by simp))
    have D_a1 := Lib.hid (bx_at (show Bx W0 _ 24 ng1 (.slice a1 m1 c1) by rw [hW0]; exact Bx.new _ _ _ _) (show (W.heap.size + 1) = _ by simp))
    rw [← hW0]
    clear hW0
    refine (sz_big_yes ng0 a0 m0 c0 (1048576) _ (by omega) (by omega)).mono ?_
    rintro e w0' ⟨rfl, bz0⟩
    replace D_a1 := Lib.hid (D_a1.out.below bz0)
    replace B := Lib.hid (B.out.trans (bz0.mono B.out.size))
    clear bz0
    have c0_a1 := D_a1.out.c0
    have c1_a1 := D_a1.out.c1
    go_wp2_with fail
    refine (sz_big_no ng1 a1 m1 c1 (1048576 - (m0 : Int)) _ (by omega) (by omega)).mono ?_
    rintro e w1' ⟨rfl, bz1⟩
    clear c0_a1 c1_a1
    replace B := Lib.hid (B.out.trans (bz1.mono B.out.size))
    clear bz1
    go_wp2
    go_ret
    exact ⟨rfl, B.out⟩
  go_enter Try.func7, Try.ntmps7
  go_wp2_with fail
  obtain ⟨W0, hW0⟩ : ∃ x, x = ((W.alloc (.cells #[.bool ng0, .slice a0 m0 c0] 24)).alloc (.cells #[.bool ng1, .slice a1 m1 c1] 24)) := ⟨_, rfl⟩
  have B := Lib.hid (show Below W.heap.size W W0 by rw [hW0]; exact ((Below.refl W.heap.size W).alloc (Nat.le_refl _) (.cells #[.bool ng0, .slice a0 m0 c0] 24)).alloc (by simp) (.cells #[.bool ng1, .slice a1 m1 c1] 24))
  have D_a0 := Lib.hid (bx_at (show Bx W0 _ 24 ng0 (.slice a0 m0 c0) by rw [hW0]; exact (Bx.new _ _ _ _).alloc _) (show W.heap.size = _ by simp))
  have D_a1 := Lib.hid (bx_at (show Bx W0 _ 24 ng1 (.slice a1 m1 c1) by rw [hW0]; exact Bx.new _ _ _ _) (show (W.heap.size + 1) = _ by simp))
  rw [← hW0]
  clear hW0
  have z0 := Lib.hid (show W.heap.size ≤ W0.heap.size from B.out.size)
  refine (sz_big_yes ng0 a0 m0 c0 (1048576) _ (by omega) (by omega)).mono ?_
  rintro e w1 ⟨rfl, b1⟩
  have z1 := Lib.hid b1.size
  replace D_a0 := Lib.hid (D_a0.out.below b1)
  replace D_a1 := Lib.hid (D_a1.out.below b1)
  replace B := Lib.hid (B.out.trans (b1.mono B.out.size))
  clear b1
  have c0_a1 := D_a1.out.c0
  have c1_a1 := D_a1.out.c1
  go_wp2_with fail
  clear c0_a1 c1_a1
  refine (sz_big_yes ng1 a1 m1 c1 (1048576 - (m0 : Int)) _ (by omega) (by omega)).mono ?_
  rintro e w2 ⟨rfl, b2⟩
  have z2 := Lib.hid b2.size
  replace D_a0 := Lib.hid (D_a0.out.below b2)
  replace D_a1 := Lib.hid (D_a1.out.below b2)
  replace B := Lib.hid (B.out.trans (b2.mono B.out.size))
  clear b2
  go_upto_region 8 with fail
  have c0_a0 := D_a0.out.c0
  have c1_a0 := D_a0.out.c1
  have c0_a1 := D_a1.out.c0
  have c1_a1 := D_a1.out.c1
  have lt_a0 := D_a0.out.lt
  have lt_a1 := D_a1.out.lt
  go_cut [6] from 24 (fun q wc => ∃ (p : Nat) (a_w_0 : Option Addr) (c_w_0 : Nat), q = .pointer (some ⟨p, 0, none⟩) ∧ Hid (Bx wc p 27 (bigAddB ng0 zs0 ng1 zs1) (.slice a_w_0 (bigAddL ng0 zs0 ng1 zs1).length c_w_0)) ∧ Hid (OwnI wc w2.heap.size (.slice a_w_0 (bigAddL ng0 zs0 ng1 zs1).length c_w_0) (bigAddL ng0 zs0 ng1 zs1)) ∧ Hid (Below w2.heap.size w2 wc))
  case first =>
    go_region_held3 (fun w' => w'.cell? ⟨W.heap.size, 0, none⟩ = some (.bool ng0) ∧ w'.cell? ⟨W.heap.size, 1, none⟩ = some (.slice a0 m0 c0) ∧ w'.cell? ⟨(W.heap.size + 1), 0, none⟩ = some (.bool ng1) ∧ w'.cell? ⟨(W.heap.size + 1), 1, none⟩ = some (.slice a1 m1 c1)) (first | exact ⟨d5_0_a0, d5_1_a0, d5_0_a1, d5_1_a1⟩ | exact ⟨cell_alloc d5_0_a0 _, cell_alloc d5_1_a0 _, cell_alloc d5_0_a1 _, cell_alloc d5_1_a1 _⟩ | exact ⟨d4_0_a0, d4_1_a0, d4_0_a1, d4_1_a1⟩ | exact ⟨cell_alloc d4_0_a0 _, cell_alloc d4_1_a0 _, cell_alloc d4_0_a1 _, cell_alloc d4_1_a1 _⟩ | exact ⟨d3_0_a0, d3_1_a0, d3_0_a1, d3_1_a1⟩ | exact ⟨cell_alloc d3_0_a0 _, cell_alloc d3_1_a0 _, cell_alloc d3_0_a1 _, cell_alloc d3_1_a1 _⟩ | exact ⟨c0_a0, c1_a0, c0_a1, c1_a1⟩ | exact ⟨cell_alloc c0_a0 _, cell_alloc c1_a0 _, cell_alloc c0_a1 _, cell_alloc c1_a1 _⟩ | exact ⟨(cell_far (show W.heap.size ≠ _ from fun e => absurd pz (by omega)) _ _).trans d5_0_a0, (cell_far (show W.heap.size ≠ _ from fun e => absurd pz (by omega)) _ _).trans d5_1_a0, (cell_far (show (W.heap.size + 1) ≠ _ from fun e => absurd pz (by omega)) _ _).trans d5_0_a1, (cell_far (show (W.heap.size + 1) ≠ _ from fun e => absurd pz (by omega)) _ _).trans d5_1_a1⟩ | fail)
      (first
        | (have := bb4; go_at_call 25; refine (spec_bigAdd ng0 _ zs0 ng1 _ zs1 _  (by first | exact r_t1 | exact rowOf_below r_t1 ((Below.refl _ _).alloc (Nat.le_refl _) _)) (by first | exact o_t2.row | exact rowOf_below o_t2.row ((Below.refl _ _).alloc (Nat.le_refl _) _))).mono ?_; rintro e w5 ⟨v_w_0, rfl, o_w_0, b5⟩; obtain ⟨a_w_0, c_w_0, rfl⟩ := o_w_0.slice; have bb5 : Below w2.heap.size w2 w5 := (by first | exact bb4.trans (b5.mono bb4.size) | exact (bb4.alloc bb4.size _).trans (b5.mono (Nat.le_trans bb4.size (by simp)))); (try (have dz := Bx.below dz b5; have pz := pz)); (try (have dz := (show Bx w5 w4.heap.size 27 false (.slice none 0 0) from Bx.below (Bx.new _ _ _ _) b5); have pz : w2.heap.size ≤ w4.heap.size := bb4.size)); (try (have y0 := dz.c0; have y1 := dz.c1; have y2 := dz.f0; have y3 := dz.f1)); have d5_0_a0 := (bb5.cell (p := ⟨W.heap.size, 0, none⟩) lt_a0).trans c0_a0; have d5_1_a0 := (bb5.cell (p := ⟨W.heap.size, 1, none⟩) lt_a0).trans c1_a0; have d5_0_a1 := (bb5.cell (p := ⟨(W.heap.size + 1), 0, none⟩) lt_a1).trans c0_a1; have d5_1_a1 := (bb5.cell (p := ⟨(W.heap.size + 1), 1, none⟩) lt_a1).trans c1_a1)
        | (have := bb3; go_at_call 14; refine (to_bigs _ zs1 _ (rowOf_below R1.out (B.out.trans (Below.mono (by first | exact bb3 | exact bb3.alloc bb3.size _) B.out.size))) (by rw [N1.out]; omega)).mono ?_; rintro e w4 ⟨v_t2, rfl, o_t2, b4⟩; obtain ⟨a_t2, c_t2, rfl⟩ := o_t2.slice; have bb4 : Below w2.heap.size w2 w4 := (by first | exact bb3.trans (b4.mono bb3.size) | exact (bb3.alloc bb3.size _).trans (b4.mono (Nat.le_trans bb3.size (by simp)))); (try (have dz := Bx.below dz b4; have pz := pz)); (try (have dz := (show Bx w4 w3.heap.size 27 false (.slice none 0 0) from Bx.below (Bx.new _ _ _ _) b4); have pz : w2.heap.size ≤ w3.heap.size := bb3.size)); (try (have y0 := dz.c0; have y1 := dz.c1; have y2 := dz.f0; have y3 := dz.f1)); have r_t1 := (by first | exact rowOf_below o_t1.row b4 | exact rowOf_below (rowOf_below o_t1.row ((Below.refl _ _).alloc (Nat.le_refl _) _)) b4 : RowOf iV w4 _ _); have d4_0_a0 := (bb4.cell (p := ⟨W.heap.size, 0, none⟩) lt_a0).trans c0_a0; have d4_1_a0 := (bb4.cell (p := ⟨W.heap.size, 1, none⟩) lt_a0).trans c1_a0; have d4_0_a1 := (bb4.cell (p := ⟨(W.heap.size + 1), 0, none⟩) lt_a1).trans c0_a1; have d4_1_a1 := (bb4.cell (p := ⟨(W.heap.size + 1), 1, none⟩) lt_a1).trans c1_a1)
        | (go_at_call 14; refine (to_bigs _ zs0 _ (rowOf_below R0.out (B.out.trans (Below.mono (by first | exact Below.refl _ _ | exact (Below.refl _ _).drew | exact (((Below.refl _ _).drew).alloc (Nat.le_refl _) _) | exact ((Below.refl _ _).alloc (Nat.le_refl _) _)) B.out.size))) (by rw [N0.out]; omega)).mono ?_; rintro e w3 ⟨v_t1, rfl, o_t1, b3⟩; obtain ⟨a_t1, c_t1, rfl⟩ := o_t1.slice; have bb3 : Below w2.heap.size w2 w3 := (by first | exact b3 | exact ((Below.refl _ _).drew).trans b3 | exact (((Below.refl _ _).drew).alloc (Nat.le_refl _) _).trans (b3.mono (by simp)) | exact ((Below.refl _ _).alloc (Nat.le_refl _) _).trans (b3.mono (by simp))); (try (have dz := (show Bx w3 w2.heap.size 27 false (.slice none 0 0) from Bx.below (show Bx (World.drew (w2.alloc (.cells #[.bool false, .slice none 0 0] 27))) w2.heap.size 27 false (.slice none 0 0) from Bx.new _ _ _ _) b3); have pz : w2.heap.size ≤ w2.heap.size := Nat.le_refl _)); (try (have y0 := dz.c0; have y1 := dz.c1; have y2 := dz.f0; have y3 := dz.f1)); have d3_0_a0 := (bb3.cell (p := ⟨W.heap.size, 0, none⟩) lt_a0).trans c0_a0; have d3_1_a0 := (bb3.cell (p := ⟨W.heap.size, 1, none⟩) lt_a0).trans c1_a0; have d3_0_a1 := (bb3.cell (p := ⟨(W.heap.size + 1), 0, none⟩) lt_a1).trans c0_a1; have d3_1_a1 := (bb3.cell (p := ⟨(W.heap.size + 1), 1, none⟩) lt_a1).trans c1_a1))
    all_goals go_wp2_with fail
    all_goals go_meet
    all_goals first
      | exact ⟨_, a_w_0, c_w_0, rfl, dz.set, (own_bx2 o_w_0 dz (by decide) _ _).base (by first | exact bb4.size | exact Nat.le_trans bb4.size (by simp)), (bb5.setCell pz _).setCell pz _⟩
      | exact ⟨_, a_w_0, c_w_0, rfl, Bx.new _ _ _ _, (o_w_0.alloc _).base bb4.size, bb5.alloc bb5.size _⟩
  obtain ⟨p_w_0, a_w_0, c_w_0, rfl, hD, hO, hB⟩ := hcut
  obtain ⟨wc8, hwc⟩ : ∃ x, x = wc := ⟨_, rfl⟩
  rw [← hwc] at hD hO hB ⊢
  clear hwc
  clear c0_a0 c1_a0
  clear c0_a1 c1_a1
  clear lt_a0
  clear lt_a1
  replace D_a0 := Lib.hid (D_a0.out.below hB.out)
  replace D_a1 := Lib.hid (D_a1.out.below hB.out)
  have z5 := Lib.hid hB.out.size
  replace B := Lib.hid (B.out.trans (hB.out.mono B.out.size))
  have D_w_0 := hD
  have O_w_0 := hO
  have L_w_0 := Lib.hid hO.out.lt
  clear hD hO hB
  have c0_a0 := D_a0.out.c0
  have c1_a0 := D_a0.out.c1
  go_wp2_with fail
  clear c0_a0 c1_a0
  refine (to_bigs _ zs0 _ (rowOf_below R0.out B.out) (by rw [N0.out]; omega)).mono ?_
  rintro e w6 ⟨v_t3, rfl, o_t3, b6⟩
  obtain ⟨a_t3, c_t3, rfl⟩ := o_t3.slice
  have z6 := Lib.hid b6.size
  replace O_w_0 := Lib.hid (O_w_0.out.below b6)
  replace D_a0 := Lib.hid (D_a0.out.below b6)
  replace D_a1 := Lib.hid (D_a1.out.below b6)
  replace D_w_0 := Lib.hid (D_w_0.out.below b6)
  replace B := Lib.hid (B.out.trans (b6.mono B.out.size))
  have O_t3 := Lib.hid o_t3
  have L_t3 := Lib.hid o_t3.lt
  clear o_t3
  clear b6
  have c0_a1 := D_a1.out.c0
  have c1_a1 := D_a1.out.c1
  have hz := B.out.size
  have lt_a1 := D_a1.out.lt
  go_wp2_with fail
  clear c0_a1 c1_a1
  clear hz
  clear lt_a1
  obtain ⟨w7, hW0⟩ : ∃ x, x = w6.alloc (.cells #[.bool ng0, .slice a_t3 (zs0).length c_t3] 27) := ⟨_, rfl⟩
  replace O_w_0 := Lib.hid (show OwnI w7 _ _ _ by rw [hW0]; exact O_w_0.out.alloc _)
  replace O_t3 := Lib.hid (show OwnI w7 _ _ _ by rw [hW0]; exact O_t3.out.alloc _)
  replace D_a0 := Lib.hid (show Bx w7 _ _ _ _ by rw [hW0]; exact D_a0.out.alloc _)
  replace D_a1 := Lib.hid (show Bx w7 _ _ _ _ by rw [hW0]; exact D_a1.out.alloc _)
  replace D_w_0 := Lib.hid (show Bx w7 _ _ _ _ by rw [hW0]; exact D_w_0.out.alloc _)
  have D_t3 := Lib.hid (show Bx w7 w6.heap.size 27 ng0 (.slice a_t3 (zs0).length c_t3) by rw [hW0]; exact Bx.new _ _ _ _)
  replace B := Lib.hid (show Below W.heap.size W w7 by rw [hW0]; exact B.out.alloc B.out.size _)
  have z7 := Lib.hid (show w6.heap.size ≤ w7.heap.size by rw [hW0]; simp)
  rw [← hW0]
  clear hW0
  refine (to_bigs _ zs1 _ (rowOf_below R1.out B.out) (by rw [N1.out]; omega)).mono ?_
  rintro e w8 ⟨v_t4, rfl, o_t4, b8⟩
  obtain ⟨a_t4, c_t4, rfl⟩ := o_t4.slice
  have z8 := Lib.hid b8.size
  replace O_w_0 := Lib.hid (O_w_0.out.below b8)
  replace O_t3 := Lib.hid (O_t3.out.below b8)
  replace D_a0 := Lib.hid (D_a0.out.below b8)
  replace D_a1 := Lib.hid (D_a1.out.below b8)
  replace D_w_0 := Lib.hid (D_w_0.out.below b8)
  replace D_t3 := Lib.hid (D_t3.out.below b8)
  replace B := Lib.hid (B.out.trans (b8.mono B.out.size))
  have O_t4 := Lib.hid o_t4
  have L_t4 := Lib.hid o_t4.lt
  clear o_t4
  clear b8
  have c0_t3 := D_t3.out.c0
  have c1_t3 := D_t3.out.c1
  have hz := B.out.size
  have lt_t3 := D_t3.out.lt
  go_wp2_with fail
  clear c0_t3 c1_t3
  clear hz
  clear lt_t3
  obtain ⟨w9, hW0⟩ : ∃ x, x = w8.alloc (.cells #[.bool ng1, .slice a_t4 (zs1).length c_t4] 27) := ⟨_, rfl⟩
  replace O_w_0 := Lib.hid (show OwnI w9 _ _ _ by rw [hW0]; exact O_w_0.out.alloc _)
  replace O_t3 := Lib.hid (show OwnI w9 _ _ _ by rw [hW0]; exact O_t3.out.alloc _)
  replace O_t4 := Lib.hid (show OwnI w9 _ _ _ by rw [hW0]; exact O_t4.out.alloc _)
  replace D_a0 := Lib.hid (show Bx w9 _ _ _ _ by rw [hW0]; exact D_a0.out.alloc _)
  replace D_a1 := Lib.hid (show Bx w9 _ _ _ _ by rw [hW0]; exact D_a1.out.alloc _)
  replace D_w_0 := Lib.hid (show Bx w9 _ _ _ _ by rw [hW0]; exact D_w_0.out.alloc _)
  replace D_t3 := Lib.hid (show Bx w9 _ _ _ _ by rw [hW0]; exact D_t3.out.alloc _)
  have D_t4 := Lib.hid (show Bx w9 w8.heap.size 27 ng1 (.slice a_t4 (zs1).length c_t4) by rw [hW0]; exact Bx.new _ _ _ _)
  replace B := Lib.hid (show Below W.heap.size W w9 by rw [hW0]; exact B.out.alloc B.out.size _)
  have z9 := Lib.hid (show w8.heap.size ≤ w9.heap.size by rw [hW0]; simp)
  rw [← hW0]
  clear hW0
  refine (impl_bigAdd ng0 _ zs0 ng1 _ zs1 _  O_t3.out.row O_t4.out.row).mono ?_
  rintro e w10 ⟨v_g_0, rfl, o_g_0, b10⟩
  obtain ⟨a_g_0, c_g_0, rfl⟩ := o_g_0.slice
  have z10 := Lib.hid b10.size
  replace O_w_0 := Lib.hid (O_w_0.out.below b10)
  replace O_t3 := Lib.hid (O_t3.out.below b10)
  replace O_t4 := Lib.hid (O_t4.out.below b10)
  replace D_a0 := Lib.hid (D_a0.out.below b10)
  replace D_a1 := Lib.hid (D_a1.out.below b10)
  replace D_w_0 := Lib.hid (D_w_0.out.below b10)
  replace D_t3 := Lib.hid (D_t3.out.below b10)
  replace D_t4 := Lib.hid (D_t4.out.below b10)
  replace B := Lib.hid (B.out.trans (b10.mono B.out.size))
  have O_g_0 := Lib.hid o_g_0
  have L_g_0 := Lib.hid o_g_0.lt
  clear o_g_0
  clear b10
  have c0_w_0 := D_w_0.out.c0
  have c1_w_0 := D_w_0.out.c1
  have hz := B.out.size
  have lt_w_0 := D_w_0.out.lt
  go_wp2_with fail
  clear c0_w_0 c1_w_0
  clear hz
  clear lt_w_0
  obtain ⟨w11, hW0⟩ : ∃ x, x = w10.alloc (.cells #[.bool (bigAddB ng0 zs0 ng1 zs1), .slice a_g_0 (bigAddL ng0 zs0 ng1 zs1).length c_g_0] 27) := ⟨_, rfl⟩
  replace O_w_0 := Lib.hid (show OwnI w11 _ _ _ by rw [hW0]; exact O_w_0.out.alloc _)
  replace O_t3 := Lib.hid (show OwnI w11 _ _ _ by rw [hW0]; exact O_t3.out.alloc _)
  replace O_t4 := Lib.hid (show OwnI w11 _ _ _ by rw [hW0]; exact O_t4.out.alloc _)
  replace O_g_0 := Lib.hid (show OwnI w11 _ _ _ by rw [hW0]; exact O_g_0.out.alloc _)
  replace D_a0 := Lib.hid (show Bx w11 _ _ _ _ by rw [hW0]; exact D_a0.out.alloc _)
  replace D_a1 := Lib.hid (show Bx w11 _ _ _ _ by rw [hW0]; exact D_a1.out.alloc _)
  replace D_w_0 := Lib.hid (show Bx w11 _ _ _ _ by rw [hW0]; exact D_w_0.out.alloc _)
  replace D_t3 := Lib.hid (show Bx w11 _ _ _ _ by rw [hW0]; exact D_t3.out.alloc _)
  replace D_t4 := Lib.hid (show Bx w11 _ _ _ _ by rw [hW0]; exact D_t4.out.alloc _)
  have D_g_0 := Lib.hid (show Bx w11 w10.heap.size 27 (bigAddB ng0 zs0 ng1 zs1) (.slice a_g_0 (bigAddL ng0 zs0 ng1 zs1).length c_g_0) by rw [hW0]; exact Bx.new _ _ _ _)
  replace B := Lib.hid (show Below W.heap.size W w11 by rw [hW0]; exact B.out.alloc B.out.size _)
  have z11 := Lib.hid (show w10.heap.size ≤ w11.heap.size by rw [hW0]; simp)
  rw [← hW0]
  clear hW0
  refine (eq_bigsB _ _ _ _ O_g_0.out.row O_w_0.out.row).mono ?_
  rintro e w12 ⟨rfl, b12⟩
  have z12 := Lib.hid b12.size
  replace O_w_0 := Lib.hid (O_w_0.out.below b12)
  replace O_t3 := Lib.hid (O_t3.out.below b12)
  replace O_t4 := Lib.hid (O_t4.out.below b12)
  replace O_g_0 := Lib.hid (O_g_0.out.below b12)
  replace D_a0 := Lib.hid (D_a0.out.below b12)
  replace D_a1 := Lib.hid (D_a1.out.below b12)
  replace D_w_0 := Lib.hid (D_w_0.out.below b12)
  replace D_t3 := Lib.hid (D_t3.out.below b12)
  replace D_t4 := Lib.hid (D_t4.out.below b12)
  replace D_g_0 := Lib.hid (D_g_0.out.below b12)
  replace B := Lib.hid (B.out.trans (b12.mono B.out.size))
  clear b12
  go_wp2_with fail
  go_wp2_with fail
  have c0_t3 := D_t3.out.c0
  have c1_t3 := D_t3.out.c1
  have c0_a0 := D_a0.out.c0
  have c1_a0 := D_a0.out.c1
  have lt_t3 := D_t3.out.lt
  have lt_a0 := D_a0.out.lt
  go_region_held3 (fun w' => w'.cell? ⟨w6.heap.size, 0, none⟩ = some (.bool ng0) ∧ w'.cell? ⟨w6.heap.size, 1, none⟩ = some (.slice a_t3 (zs0).length c_t3) ∧ w'.cell? ⟨W.heap.size, 0, none⟩ = some (.bool ng0) ∧ w'.cell? ⟨W.heap.size, 1, none⟩ = some (.slice a0 m0 c0)) (first | exact ⟨d14_0_t3, d14_1_t3, d14_0_a0, d14_1_a0⟩ | exact ⟨d13_0_t3, d13_1_t3, d13_0_a0, d13_1_a0⟩ | exact ⟨c0_t3, c1_t3, c0_a0, c1_a0⟩)
    (first
      | (have := bb13; go_at_call 16; refine (eq_bigsB _ _ _ _ (rowOf_below O_t3.out.row bb13) o_t5.row).mono ?_; rintro e w14 ⟨rfl, b14⟩; have bb14 : Below w12.heap.size w12 w14 := bb13.trans (b14.mono bb13.size); have d14_0_t3 := (bb14.cell (p := ⟨w6.heap.size, 0, none⟩) lt_t3).trans c0_t3; have d14_1_t3 := (bb14.cell (p := ⟨w6.heap.size, 1, none⟩) lt_t3).trans c1_t3; have d14_0_a0 := (bb14.cell (p := ⟨W.heap.size, 0, none⟩) lt_a0).trans c0_a0; have d14_1_a0 := (bb14.cell (p := ⟨W.heap.size, 1, none⟩) lt_a0).trans c1_a0)
      | (go_at_call 14; refine (to_bigs _ zs0 _ (rowOf_below R0.out (B.out.trans (Below.mono (by first | exact Below.refl _ _ | exact (Below.refl _ _).drew) B.out.size))) (by rw [N0.out]; omega)).mono ?_; rintro e w13 ⟨v_t5, rfl, o_t5, b13⟩; obtain ⟨a_t5, c_t5, rfl⟩ := o_t5.slice; have bb13 : Below w12.heap.size w12 w13 := (by first | exact b13 | exact ((Below.refl _ _).drew).trans b13); have d13_0_t3 := (bb13.cell (p := ⟨w6.heap.size, 0, none⟩) lt_t3).trans c0_t3; have d13_1_t3 := (bb13.cell (p := ⟨w6.heap.size, 1, none⟩) lt_t3).trans c1_t3; have d13_0_a0 := (bb13.cell (p := ⟨W.heap.size, 0, none⟩) lt_a0).trans c0_a0; have d13_1_a0 := (bb13.cell (p := ⟨W.heap.size, 1, none⟩) lt_a0).trans c1_a0))
  clear b13
  have b13 := bb13
  replace o_t5 : OwnI w13 w12.heap.size _ _ := o_t5
  have z13 := Lib.hid b13.size
  replace O_w_0 := Lib.hid (O_w_0.out.below b13)
  replace O_t3 := Lib.hid (O_t3.out.below b13)
  replace O_t4 := Lib.hid (O_t4.out.below b13)
  replace O_g_0 := Lib.hid (O_g_0.out.below b13)
  replace D_a0 := Lib.hid (D_a0.out.below b13)
  replace D_a1 := Lib.hid (D_a1.out.below b13)
  replace D_w_0 := Lib.hid (D_w_0.out.below b13)
  replace D_t3 := Lib.hid (D_t3.out.below b13)
  replace D_t4 := Lib.hid (D_t4.out.below b13)
  replace D_g_0 := Lib.hid (D_g_0.out.below b13)
  replace B := Lib.hid (B.out.trans (b13.mono B.out.size))
  have O_t5 := Lib.hid o_t5
  have L_t5 := Lib.hid o_t5.lt
  clear o_t5
  clear b13
  clear d13_0_t3 d13_1_t3
  clear d13_0_a0 d13_1_a0
  have z14 := Lib.hid b14.size
  replace O_w_0 := Lib.hid (O_w_0.out.below b14)
  replace O_t3 := Lib.hid (O_t3.out.below b14)
  replace O_t4 := Lib.hid (O_t4.out.below b14)
  replace O_g_0 := Lib.hid (O_g_0.out.below b14)
  replace O_t5 := Lib.hid (O_t5.out.below b14)
  replace D_a0 := Lib.hid (D_a0.out.below b14)
  replace D_a1 := Lib.hid (D_a1.out.below b14)
  replace D_w_0 := Lib.hid (D_w_0.out.below b14)
  replace D_t3 := Lib.hid (D_t3.out.below b14)
  replace D_t4 := Lib.hid (D_t4.out.below b14)
  replace D_g_0 := Lib.hid (D_g_0.out.below b14)
  replace B := Lib.hid (B.out.trans (b14.mono B.out.size))
  clear b14
  clear d14_0_t3 d14_1_t3
  clear d14_0_a0 d14_1_a0
  clear bb13 bb14
  clear c0_t3 c1_t3
  clear c0_a0 c1_a0
  clear lt_t3
  clear lt_a0
  clear O_t5 L_t5
  go_wp2_with fail
  go_wp2_with fail
  have c0_t4 := D_t4.out.c0
  have c1_t4 := D_t4.out.c1
  have c0_a1 := D_a1.out.c0
  have c1_a1 := D_a1.out.c1
  have lt_t4 := D_t4.out.lt
  have lt_a1 := D_a1.out.lt
  go_region_held3 (fun w' => w'.cell? ⟨w8.heap.size, 0, none⟩ = some (.bool ng1) ∧ w'.cell? ⟨w8.heap.size, 1, none⟩ = some (.slice a_t4 (zs1).length c_t4) ∧ w'.cell? ⟨(W.heap.size + 1), 0, none⟩ = some (.bool ng1) ∧ w'.cell? ⟨(W.heap.size + 1), 1, none⟩ = some (.slice a1 m1 c1)) (first | exact ⟨d16_0_t4, d16_1_t4, d16_0_a1, d16_1_a1⟩ | exact ⟨d15_0_t4, d15_1_t4, d15_0_a1, d15_1_a1⟩ | exact ⟨c0_t4, c1_t4, c0_a1, c1_a1⟩)
    (first
      | (have := bb15; go_at_call 16; refine (eq_bigsB _ _ _ _ (rowOf_below O_t4.out.row bb15) o_t6.row).mono ?_; rintro e w16 ⟨rfl, b16⟩; have bb16 : Below w14.heap.size w14 w16 := bb15.trans (b16.mono bb15.size); have d16_0_t4 := (bb16.cell (p := ⟨w8.heap.size, 0, none⟩) lt_t4).trans c0_t4; have d16_1_t4 := (bb16.cell (p := ⟨w8.heap.size, 1, none⟩) lt_t4).trans c1_t4; have d16_0_a1 := (bb16.cell (p := ⟨(W.heap.size + 1), 0, none⟩) lt_a1).trans c0_a1; have d16_1_a1 := (bb16.cell (p := ⟨(W.heap.size + 1), 1, none⟩) lt_a1).trans c1_a1)
      | (go_at_call 14; refine (to_bigs _ zs1 _ (rowOf_below R1.out (B.out.trans (Below.mono (by first | exact Below.refl _ _ | exact (Below.refl _ _).drew) B.out.size))) (by rw [N1.out]; omega)).mono ?_; rintro e w15 ⟨v_t6, rfl, o_t6, b15⟩; obtain ⟨a_t6, c_t6, rfl⟩ := o_t6.slice; have bb15 : Below w14.heap.size w14 w15 := (by first | exact b15 | exact ((Below.refl _ _).drew).trans b15); have d15_0_t4 := (bb15.cell (p := ⟨w8.heap.size, 0, none⟩) lt_t4).trans c0_t4; have d15_1_t4 := (bb15.cell (p := ⟨w8.heap.size, 1, none⟩) lt_t4).trans c1_t4; have d15_0_a1 := (bb15.cell (p := ⟨(W.heap.size + 1), 0, none⟩) lt_a1).trans c0_a1; have d15_1_a1 := (bb15.cell (p := ⟨(W.heap.size + 1), 1, none⟩) lt_a1).trans c1_a1))
  clear b15
  have b15 := bb15
  replace o_t6 : OwnI w15 w14.heap.size _ _ := o_t6
  have z15 := Lib.hid b15.size
  replace O_w_0 := Lib.hid (O_w_0.out.below b15)
  replace O_t3 := Lib.hid (O_t3.out.below b15)
  replace O_t4 := Lib.hid (O_t4.out.below b15)
  replace O_g_0 := Lib.hid (O_g_0.out.below b15)
  replace D_a0 := Lib.hid (D_a0.out.below b15)
  replace D_a1 := Lib.hid (D_a1.out.below b15)
  replace D_w_0 := Lib.hid (D_w_0.out.below b15)
  replace D_t3 := Lib.hid (D_t3.out.below b15)
  replace D_t4 := Lib.hid (D_t4.out.below b15)
  replace D_g_0 := Lib.hid (D_g_0.out.below b15)
  replace B := Lib.hid (B.out.trans (b15.mono B.out.size))
  have O_t6 := Lib.hid o_t6
  have L_t6 := Lib.hid o_t6.lt
  clear o_t6
  clear b15
  clear d15_0_t4 d15_1_t4
  clear d15_0_a1 d15_1_a1
  have z16 := Lib.hid b16.size
  replace O_w_0 := Lib.hid (O_w_0.out.below b16)
  replace O_t3 := Lib.hid (O_t3.out.below b16)
  replace O_t4 := Lib.hid (O_t4.out.below b16)
  replace O_g_0 := Lib.hid (O_g_0.out.below b16)
  replace O_t6 := Lib.hid (O_t6.out.below b16)
  replace D_a0 := Lib.hid (D_a0.out.below b16)
  replace D_a1 := Lib.hid (D_a1.out.below b16)
  replace D_w_0 := Lib.hid (D_w_0.out.below b16)
  replace D_t3 := Lib.hid (D_t3.out.below b16)
  replace D_t4 := Lib.hid (D_t4.out.below b16)
  replace D_g_0 := Lib.hid (D_g_0.out.below b16)
  replace B := Lib.hid (B.out.trans (b16.mono B.out.size))
  clear b16
  clear d16_0_t4 d16_1_t4
  clear d16_0_a1 d16_1_a1
  clear bb15 bb16
  clear c0_t4 c1_t4
  clear c0_a1 c1_a1
  clear lt_t4
  clear lt_a1
  clear O_t6 L_t6
  have c0_t3 := D_t3.out.c0
  have c1_t3 := D_t3.out.c1
  go_wp2_with fail
  clear c0_t3 c1_t3
  refine (mark_bigs _ (1) _ _ _ _ (by simp) O_t3.out (by rw [N0.out]; omega)).mono ?_
  rintro e w17 ⟨rfl, o17, b17⟩
  have z17 := Lib.hid (grownBy_size b17)
  replace D_a0 := Lib.hid (D_a0.out.marked O_t3.out (by decide) b17)
  replace D_a1 := Lib.hid (D_a1.out.marked O_t3.out (by decide) b17)
  replace D_w_0 := Lib.hid (D_w_0.out.marked O_t3.out (by decide) b17)
  replace D_t3 := Lib.hid (D_t3.out.marked O_t3.out (by decide) b17)
  replace D_t4 := Lib.hid (D_t4.out.marked O_t3.out (by decide) b17)
  replace D_g_0 := Lib.hid (D_g_0.out.marked O_t3.out (by decide) b17)
  have OLD := O_t3
  replace O_w_0 := Lib.hid (O_w_0.out.other b17 (fun g g' e1 e2 => by have := L_w_0.out g e1; have := L_t3.out g' e2; have := z0.out; have := z1.out; have := z2.out; have := z5.out; have := z6.out; have := z7.out; have := z8.out; have := z9.out; have := z10.out; have := z11.out; have := z12.out; have := z13.out; have := z14.out; have := z15.out; have := z16.out; omega))
  replace O_t3 := Lib.hid o17
  replace O_t4 := Lib.hid (O_t4.out.other b17 (fun g g' e1 e2 => by have := L_t4.out g e1; have := L_t3.out g' e2; have := z0.out; have := z1.out; have := z2.out; have := z5.out; have := z6.out; have := z7.out; have := z8.out; have := z9.out; have := z10.out; have := z11.out; have := z12.out; have := z13.out; have := z14.out; have := z15.out; have := z16.out; omega))
  replace O_g_0 := Lib.hid (O_g_0.out.other b17 (fun g g' e1 e2 => by have := L_g_0.out g e1; have := L_t3.out g' e2; have := z0.out; have := z1.out; have := z2.out; have := z5.out; have := z6.out; have := z7.out; have := z8.out; have := z9.out; have := z10.out; have := z11.out; have := z12.out; have := z13.out; have := z14.out; have := z15.out; have := z16.out; omega))
  clear OLD
  replace B := Lib.hid (Below.grown B.out b17 B.out.size (fun g hg => by have := L_t3.out g hg; have := z0.out; have := z1.out; have := z2.out; have := z5.out; have := z6.out; have := z7.out; have := z8.out; have := z9.out; have := z10.out; have := z11.out; have := z12.out; have := z13.out; have := z14.out; have := z15.out; have := z16.out; have := B.out.size; omega))
  clear o17
  clear b17
  rw [N0.out]
  have c0_t4 := D_t4.out.c0
  have c1_t4 := D_t4.out.c1
  go_wp2_with fail
  clear c0_t4 c1_t4
  refine (mark_bigs _ (1 + m0) _ _ _ _ (by simp) O_t4.out (by rw [N1.out]; omega)).mono ?_
  rintro e w18 ⟨rfl, o18, b18⟩
  have z18 := Lib.hid (grownBy_size b18)
  replace D_a0 := Lib.hid (D_a0.out.marked O_t4.out (by decide) b18)
  replace D_a1 := Lib.hid (D_a1.out.marked O_t4.out (by decide) b18)
  replace D_w_0 := Lib.hid (D_w_0.out.marked O_t4.out (by decide) b18)
  replace D_t3 := Lib.hid (D_t3.out.marked O_t4.out (by decide) b18)
  replace D_t4 := Lib.hid (D_t4.out.marked O_t4.out (by decide) b18)
  replace D_g_0 := Lib.hid (D_g_0.out.marked O_t4.out (by decide) b18)
  have OLD := O_t4
  replace O_w_0 := Lib.hid (O_w_0.out.other b18 (fun g g' e1 e2 => by have := L_w_0.out g e1; have := L_t4.out g' e2; have := z0.out; have := z1.out; have := z2.out; have := z5.out; have := z6.out; have := z7.out; have := z8.out; have := z9.out; have := z10.out; have := z11.out; have := z12.out; have := z13.out; have := z14.out; have := z15.out; have := z16.out; have := z17.out; omega))
  replace O_t3 := Lib.hid (O_t3.out.other b18 (fun g g' e1 e2 => by have := L_t3.out g e1; have := L_t4.out g' e2; have := z0.out; have := z1.out; have := z2.out; have := z5.out; have := z6.out; have := z7.out; have := z8.out; have := z9.out; have := z10.out; have := z11.out; have := z12.out; have := z13.out; have := z14.out; have := z15.out; have := z16.out; have := z17.out; omega))
  replace O_t4 := Lib.hid o18
  replace O_g_0 := Lib.hid (O_g_0.out.other b18 (fun g g' e1 e2 => by have := L_g_0.out g e1; have := L_t4.out g' e2; have := z0.out; have := z1.out; have := z2.out; have := z5.out; have := z6.out; have := z7.out; have := z8.out; have := z9.out; have := z10.out; have := z11.out; have := z12.out; have := z13.out; have := z14.out; have := z15.out; have := z16.out; have := z17.out; omega))
  clear OLD
  replace B := Lib.hid (Below.grown B.out b18 B.out.size (fun g hg => by have := L_t4.out g hg; have := z0.out; have := z1.out; have := z2.out; have := z5.out; have := z6.out; have := z7.out; have := z8.out; have := z9.out; have := z10.out; have := z11.out; have := z12.out; have := z13.out; have := z14.out; have := z15.out; have := z16.out; have := z17.out; have := B.out.size; omega))
  clear o18
  clear b18
  rw [N1.out]
  clear O_t3 L_t3
  clear O_t4 L_t4
  have c0_g_0 := D_g_0.out.c0
  have c1_g_0 := D_g_0.out.c1
  have c0_w_0 := D_w_0.out.c0
  have c1_w_0 := D_w_0.out.c1
  go_wp2_with fail
  clear c0_g_0 c1_g_0
  clear c0_w_0 c1_w_0
  refine (eq_bigsB _ _ _ _ O_g_0.out.row O_w_0.out.row).mono ?_
  rintro e w19 ⟨rfl, b19⟩
  have z19 := Lib.hid b19.size
  replace O_w_0 := Lib.hid (O_w_0.out.below b19)
  replace O_g_0 := Lib.hid (O_g_0.out.below b19)
  replace D_a0 := Lib.hid (D_a0.out.below b19)
  replace D_a1 := Lib.hid (D_a1.out.below b19)
  replace D_w_0 := Lib.hid (D_w_0.out.below b19)
  replace D_t3 := Lib.hid (D_t3.out.below b19)
  replace D_t4 := Lib.hid (D_t4.out.below b19)
  replace D_g_0 := Lib.hid (D_g_0.out.below b19)
  replace B := Lib.hid (B.out.trans (b19.mono B.out.size))
  clear b19
  have hl_0 := Lib.hid (bigAddL_len ng0 zs0 ng1 zs1)
  have hq0 : (bigAddL ng0 zs0 ng1 zs1).length ≤ 1000 := hl_0.out
  have c0_g_0 := D_g_0.out.c0
  have c1_g_0 := D_g_0.out.c1
  go_wp2_with fail
  clear c0_g_0 c1_g_0
  refine (mark_bigs _ (1) _ _ _ _ (by simp) O_g_0.out (by omega)).mono ?_
  rintro e w20 ⟨rfl, o20, b20⟩
  have z20 := Lib.hid (grownBy_size b20)
  replace D_a0 := Lib.hid (D_a0.out.marked O_g_0.out (by decide) b20)
  replace D_a1 := Lib.hid (D_a1.out.marked O_g_0.out (by decide) b20)
  replace D_w_0 := Lib.hid (D_w_0.out.marked O_g_0.out (by decide) b20)
  replace D_t3 := Lib.hid (D_t3.out.marked O_g_0.out (by decide) b20)
  replace D_t4 := Lib.hid (D_t4.out.marked O_g_0.out (by decide) b20)
  replace D_g_0 := Lib.hid (D_g_0.out.marked O_g_0.out (by decide) b20)
  have OLD := O_g_0
  replace O_w_0 := Lib.hid (O_w_0.out.other b20 (fun g g' e1 e2 => by have := L_w_0.out g e1; have := L_g_0.out g' e2; have := z0.out; have := z1.out; have := z2.out; have := z5.out; have := z6.out; have := z7.out; have := z8.out; have := z9.out; have := z10.out; have := z11.out; have := z12.out; have := z13.out; have := z14.out; have := z15.out; have := z16.out; have := z17.out; have := z18.out; have := z19.out; omega))
  replace O_g_0 := Lib.hid o20
  clear OLD
  replace B := Lib.hid (Below.grown B.out b20 B.out.size (fun g hg => by have := L_g_0.out g hg; have := z0.out; have := z1.out; have := z2.out; have := z5.out; have := z6.out; have := z7.out; have := z8.out; have := z9.out; have := z10.out; have := z11.out; have := z12.out; have := z13.out; have := z14.out; have := z15.out; have := z16.out; have := z17.out; have := z18.out; have := z19.out; have := B.out.size; omega))
  clear o20
  clear b20
  have c0_g_0 := D_g_0.out.c0
  have c1_g_0 := D_g_0.out.c1
  go_wp2_with fail
  clear c0_g_0 c1_g_0
  refine (held_bigsB _ (bigAddL ng0 zs0 ng1 zs1).length (1) _ _ (by simp) O_g_0.out.row (by omega)).mono ?_
  rintro e w21 ⟨rfl, b21⟩
  have z21 := Lib.hid b21.size
  replace O_w_0 := Lib.hid (O_w_0.out.below b21)
  replace O_g_0 := Lib.hid (O_g_0.out.below b21)
  replace D_a0 := Lib.hid (D_a0.out.below b21)
  replace D_a1 := Lib.hid (D_a1.out.below b21)
  replace D_w_0 := Lib.hid (D_w_0.out.below b21)
  replace D_t3 := Lib.hid (D_t3.out.below b21)
  replace D_t4 := Lib.hid (D_t4.out.below b21)
  replace D_g_0 := Lib.hid (D_g_0.out.below b21)
  replace B := Lib.hid (B.out.trans (b21.mono B.out.size))
  clear b21
  go_upto_region 31 with fail
  have c0_a0 := D_a0.out.c0
  have c1_a0 := D_a0.out.c1
  have c0_a1 := D_a1.out.c0
  have c1_a1 := D_a1.out.c1
  have lt_a0 := D_a0.out.lt
  have lt_a1 := D_a1.out.lt
  go_cut [13] from 75 (fun q wc => ∃ (p : Nat) (a_h_0 : Option Addr) (c_h_0 : Nat), q = .pointer (some ⟨p, 0, none⟩) ∧ Hid (Bx wc p 27 (bigAddB ng0 zs0 ng1 zs1) (.slice a_h_0 (bigAddL ng0 zs0 ng1 zs1).length c_h_0)) ∧ Hid (OwnI wc w21.heap.size (.slice a_h_0 (bigAddL ng0 zs0 ng1 zs1).length c_h_0) (bigAddL ng0 zs0 ng1 zs1)) ∧ Hid (Below w21.heap.size w21 wc))
  case first =>
    go_region_held3 (fun w' => w'.cell? ⟨W.heap.size, 0, none⟩ = some (.bool ng0) ∧ w'.cell? ⟨W.heap.size, 1, none⟩ = some (.slice a0 m0 c0) ∧ w'.cell? ⟨(W.heap.size + 1), 0, none⟩ = some (.bool ng1) ∧ w'.cell? ⟨(W.heap.size + 1), 1, none⟩ = some (.slice a1 m1 c1)) (first | exact ⟨d24_0_a0, d24_1_a0, d24_0_a1, d24_1_a1⟩ | exact ⟨cell_alloc d24_0_a0 _, cell_alloc d24_1_a0 _, cell_alloc d24_0_a1 _, cell_alloc d24_1_a1 _⟩ | exact ⟨d23_0_a0, d23_1_a0, d23_0_a1, d23_1_a1⟩ | exact ⟨cell_alloc d23_0_a0 _, cell_alloc d23_1_a0 _, cell_alloc d23_0_a1 _, cell_alloc d23_1_a1 _⟩ | exact ⟨d22_0_a0, d22_1_a0, d22_0_a1, d22_1_a1⟩ | exact ⟨cell_alloc d22_0_a0 _, cell_alloc d22_1_a0 _, cell_alloc d22_0_a1 _, cell_alloc d22_1_a1 _⟩ | exact ⟨c0_a0, c1_a0, c0_a1, c1_a1⟩ | exact ⟨cell_alloc c0_a0 _, cell_alloc c1_a0 _, cell_alloc c0_a1 _, cell_alloc c1_a1 _⟩ | exact ⟨(cell_far (show W.heap.size ≠ _ from fun e => absurd pz (by omega)) _ _).trans d24_0_a0, (cell_far (show W.heap.size ≠ _ from fun e => absurd pz (by omega)) _ _).trans d24_1_a0, (cell_far (show (W.heap.size + 1) ≠ _ from fun e => absurd pz (by omega)) _ _).trans d24_0_a1, (cell_far (show (W.heap.size + 1) ≠ _ from fun e => absurd pz (by omega)) _ _).trans d24_1_a1⟩ | fail)
      (first
        | (have := bb23; go_at_call 26; refine (impl_bigAdd ng0 _ zs0 ng1 _ zs1 _  (by first | exact r_t7 | exact rowOf_below r_t7 ((Below.refl _ _).alloc (Nat.le_refl _) _)) (by first | exact o_t8.row | exact rowOf_below o_t8.row ((Below.refl _ _).alloc (Nat.le_refl _) _))).mono ?_; rintro e w24 ⟨v_h_0, rfl, o_h_0, b24⟩; obtain ⟨a_h_0, c_h_0, rfl⟩ := o_h_0.slice; have bb24 : Below w21.heap.size w21 w24 := (by first | exact bb23.trans (b24.mono bb23.size) | exact (bb23.alloc bb23.size _).trans (b24.mono (Nat.le_trans bb23.size (by simp)))); (try (have dz := Bx.below dz b24; have pz := pz)); (try (have dz := (show Bx w24 w23.heap.size 27 false (.slice none 0 0) from Bx.below (Bx.new _ _ _ _) b24); have pz : w21.heap.size ≤ w23.heap.size := bb23.size)); (try (have y0 := dz.c0; have y1 := dz.c1; have y2 := dz.f0; have y3 := dz.f1)); have d24_0_a0 := (bb24.cell (p := ⟨W.heap.size, 0, none⟩) lt_a0).trans c0_a0; have d24_1_a0 := (bb24.cell (p := ⟨W.heap.size, 1, none⟩) lt_a0).trans c1_a0; have d24_0_a1 := (bb24.cell (p := ⟨(W.heap.size + 1), 0, none⟩) lt_a1).trans c0_a1; have d24_1_a1 := (bb24.cell (p := ⟨(W.heap.size + 1), 1, none⟩) lt_a1).trans c1_a1)
        | (have := bb22; go_at_call 14; refine (to_bigs _ zs1 _ (rowOf_below R1.out (B.out.trans (Below.mono (by first | exact bb22 | exact bb22.alloc bb22.size _) B.out.size))) (by rw [N1.out]; omega)).mono ?_; rintro e w23 ⟨v_t8, rfl, o_t8, b23⟩; obtain ⟨a_t8, c_t8, rfl⟩ := o_t8.slice; have bb23 : Below w21.heap.size w21 w23 := (by first | exact bb22.trans (b23.mono bb22.size) | exact (bb22.alloc bb22.size _).trans (b23.mono (Nat.le_trans bb22.size (by simp)))); (try (have dz := Bx.below dz b23; have pz := pz)); (try (have dz := (show Bx w23 w22.heap.size 27 false (.slice none 0 0) from Bx.below (Bx.new _ _ _ _) b23); have pz : w21.heap.size ≤ w22.heap.size := bb22.size)); (try (have y0 := dz.c0; have y1 := dz.c1; have y2 := dz.f0; have y3 := dz.f1)); have r_t7 := (by first | exact rowOf_below o_t7.row b23 | exact rowOf_below (rowOf_below o_t7.row ((Below.refl _ _).alloc (Nat.le_refl _) _)) b23 : RowOf iV w23 _ _); have d23_0_a0 := (bb23.cell (p := ⟨W.heap.size, 0, none⟩) lt_a0).trans c0_a0; have d23_1_a0 := (bb23.cell (p := ⟨W.heap.size, 1, none⟩) lt_a0).trans c1_a0; have d23_0_a1 := (bb23.cell (p := ⟨(W.heap.size + 1), 0, none⟩) lt_a1).trans c0_a1; have d23_1_a1 := (bb23.cell (p := ⟨(W.heap.size + 1), 1, none⟩) lt_a1).trans c1_a1)
        | (go_at_call 14; refine (to_bigs _ zs0 _ (rowOf_below R0.out (B.out.trans (Below.mono (by first | exact Below.refl _ _ | exact (Below.refl _ _).drew | exact (((Below.refl _ _).drew).alloc (Nat.le_refl _) _) | exact ((Below.refl _ _).alloc (Nat.le_refl _) _)) B.out.size))) (by rw [N0.out]; omega)).mono ?_; rintro e w22 ⟨v_t7, rfl, o_t7, b22⟩; obtain ⟨a_t7, c_t7, rfl⟩ := o_t7.slice; have bb22 : Below w21.heap.size w21 w22 := (by first | exact b22 | exact ((Below.refl _ _).drew).trans b22 | exact (((Below.refl _ _).drew).alloc (Nat.le_refl _) _).trans (b22.mono (by simp)) | exact ((Below.refl _ _).alloc (Nat.le_refl _) _).trans (b22.mono (by simp))); (try (have dz := (show Bx w22 w21.heap.size 27 false (.slice none 0 0) from Bx.below (show Bx (World.drew (w21.alloc (.cells #[.bool false, .slice none 0 0] 27))) w21.heap.size 27 false (.slice none 0 0) from Bx.new _ _ _ _) b22); have pz : w21.heap.size ≤ w21.heap.size := Nat.le_refl _)); (try (have y0 := dz.c0; have y1 := dz.c1; have y2 := dz.f0; have y3 := dz.f1)); have d22_0_a0 := (bb22.cell (p := ⟨W.heap.size, 0, none⟩) lt_a0).trans c0_a0; have d22_1_a0 := (bb22.cell (p := ⟨W.heap.size, 1, none⟩) lt_a0).trans c1_a0; have d22_0_a1 := (bb22.cell (p := ⟨(W.heap.size + 1), 0, none⟩) lt_a1).trans c0_a1; have d22_1_a1 := (bb22.cell (p := ⟨(W.heap.size + 1), 1, none⟩) lt_a1).trans c1_a1))
    all_goals go_wp2_with fail
    all_goals go_meet
    all_goals first
      | exact ⟨_, a_h_0, c_h_0, rfl, dz.set, (own_bx2 o_h_0 dz (by decide) _ _).base (by first | exact bb23.size | exact Nat.le_trans bb23.size (by simp)), (bb24.setCell pz _).setCell pz _⟩
      | exact ⟨_, a_h_0, c_h_0, rfl, Bx.new _ _ _ _, (o_h_0.alloc _).base bb23.size, bb24.alloc bb24.size _⟩
  obtain ⟨p_h_0, a_h_0, c_h_0, rfl, hD, hO, hB⟩ := hcut
  obtain ⟨wc31, hwc⟩ : ∃ x, x = wc := ⟨_, rfl⟩
  rw [← hwc] at hD hO hB ⊢
  clear hwc
  clear c0_a0 c1_a0
  clear c0_a1 c1_a1
  clear lt_a0
  clear lt_a1
  replace O_w_0 := Lib.hid (O_w_0.out.below hB.out)
  replace O_g_0 := Lib.hid (O_g_0.out.below hB.out)
  replace D_a0 := Lib.hid (D_a0.out.below hB.out)
  replace D_a1 := Lib.hid (D_a1.out.below hB.out)
  replace D_w_0 := Lib.hid (D_w_0.out.below hB.out)
  replace D_t3 := Lib.hid (D_t3.out.below hB.out)
  replace D_t4 := Lib.hid (D_t4.out.below hB.out)
  replace D_g_0 := Lib.hid (D_g_0.out.below hB.out)
  have z24 := Lib.hid hB.out.size
  replace B := Lib.hid (B.out.trans (hB.out.mono B.out.size))
  have D_h_0 := hD
  have O_h_0 := hO
  have L_h_0 := Lib.hid hO.out.lt
  clear hD hO hB
  have c0_h_0 := D_h_0.out.c0
  have c1_h_0 := D_h_0.out.c1
  have c0_w_0 := D_w_0.out.c0
  have c1_w_0 := D_w_0.out.c1
  go_wp2_with fail
  clear c0_h_0 c1_h_0
  clear c0_w_0 c1_w_0
  refine (eq_bigsB _ _ _ _ O_h_0.out.row O_w_0.out.row).mono ?_
  rintro e w25 ⟨rfl, b25⟩
  have z25 := Lib.hid b25.size
  replace O_w_0 := Lib.hid (O_w_0.out.below b25)
  replace O_g_0 := Lib.hid (O_g_0.out.below b25)
  replace O_h_0 := Lib.hid (O_h_0.out.below b25)
  replace D_a0 := Lib.hid (D_a0.out.below b25)
  replace D_a1 := Lib.hid (D_a1.out.below b25)
  replace D_w_0 := Lib.hid (D_w_0.out.below b25)
  replace D_t3 := Lib.hid (D_t3.out.below b25)
  replace D_t4 := Lib.hid (D_t4.out.below b25)
  replace D_g_0 := Lib.hid (D_g_0.out.below b25)
  replace D_h_0 := Lib.hid (D_h_0.out.below b25)
  replace B := Lib.hid (B.out.trans (b25.mono B.out.size))
  clear b25
  have c0_g_0 := D_g_0.out.c0
  have c1_g_0 := D_g_0.out.c1
  go_wp2_with fail
  clear c0_g_0 c1_g_0
  refine (held_bigsB _ (bigAddL ng0 zs0 ng1 zs1).length (1) _ _ (by simp) O_g_0.out.row (by omega)).mono ?_
  rintro e w26 ⟨rfl, b26⟩
  have z26 := Lib.hid b26.size
  replace O_w_0 := Lib.hid (O_w_0.out.below b26)
  replace O_g_0 := Lib.hid (O_g_0.out.below b26)
  replace O_h_0 := Lib.hid (O_h_0.out.below b26)
  replace D_a0 := Lib.hid (D_a0.out.below b26)
  replace D_a1 := Lib.hid (D_a1.out.below b26)
  replace D_w_0 := Lib.hid (D_w_0.out.below b26)
  replace D_t3 := Lib.hid (D_t3.out.below b26)
  replace D_t4 := Lib.hid (D_t4.out.below b26)
  replace D_g_0 := Lib.hid (D_g_0.out.below b26)
  replace D_h_0 := Lib.hid (D_h_0.out.below b26)
  replace B := Lib.hid (B.out.trans (b26.mono B.out.size))
  clear b26
  go_wp2
  go_ret
  exact ⟨rfl, B.out⟩


end Go.Proofs.Ytofmpfcbdemcnaa
