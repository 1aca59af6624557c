/- The exact law of EqualMatrices. -/
import Derived.Test.YtojklmckjebplaaMatIof
import Derived.Test.YtojklmckjebplaaVecEq
import Derived.Test.YtojklmckjebplaaRatEq2
import Derived.Test.YtojklmckjebplaaRatsIn
import Derived.Deep.CutBlock
import Derived.Deep.CutRange
import Derived.Deep.RegionHeld3
namespace Go.Proofs.Ytojklmckjebplaa
open Go.RowKit Go.WideShapes Go.ChangeShapes
set_option linter.unusedVariables false
set_option linter.unusedSimpArgs false
def eqF (f g : Fr) : Bool := ratEqB f.neg f.mag f.den g.neg g.mag g.den
theorem spec_equalVL (v0 : Value) (L0 : List Fr) (v1 : Value) (L1 : List Fr) (w : World) (h0 : RatsAt w v0 L0) (h1 : RatsAt w v1 L1) : Calls Try.prog 80 #[v0, v1] w fun e w' => e = .returned (.bool (eqV eqF L0 L1)) ∧ Below w.heap.size w w' :=
  spec_eqV eqF (fun f g v d v' d' w h h' => spec_ratEqualR f.neg v f.mag d f.den g.neg v' g.mag d' g.den w h h') v0 L0 v1 L1 w h0 h1
theorem impl_equalVL (v0 : Value) (L0 : List Fr) (v1 : Value) (L1 : List Fr) (w : World) (h0 : RatsAt w v0 L0) (h1 : RatsAt w v1 L1) : Calls Try.prog 17 #[v0, v1] w fun e w' => e = .returned (.bool (eqV eqF L0 L1)) ∧ Below w.heap.size w w' :=
  impl_equalV eqF (fun f g v d v' d' w h h' => impl_ratEqualR f.neg v f.mag d f.den g.neg v' g.mag d' g.den w h h') v0 L0 v1 L1 w h0 h1
theorem spec_eqML (r0 c0 : Int) (v0 : Value) (L0 : List Fr) (r1 c1 : Int) (v1 : Value) (L1 : List Fr) (w : World) (h0 : RatsAt w v0 L0) (h1 : RatsAt w v1 L1) :
    Calls Try.prog 47 #[.agg #[.int .i64 r0, .int .i64 c0, v0], .agg #[.int .i64 r1, .int .i64 c1, v1]] w fun e w' => e = .returned (.bool (eqM (eqV eqF) r0 c0 L0 r1 c1 L1)) ∧ Below w.heap.size w w' := spec_eqM (eqV eqF) (fun v0 L0 v1 L1 w h0 h1 => spec_equalVL v0 L0 v1 L1 w h0 h1) r0 c0 v0 L0 r1 c1 v1 L1 w h0 h1
theorem impl_eqML (r0 c0 : Int) (v0 : Value) (L0 : List Fr) (r1 c1 : Int) (v1 : Value) (L1 : List Fr) (w : World) (h0 : RatsAt w v0 L0) (h1 : RatsAt w v1 L1) :
    Calls Try.prog 18 #[.agg #[.int .i64 r0, .int .i64 c0, v0], .agg #[.int .i64 r1, .int .i64 c1, v1]] w fun e w' => e = .returned (.bool (eqM (eqV eqF) r0 c0 L0 r1 c1 L1)) ∧ Below w.heap.size w w' := impl_eqM (eqV eqF) (fun v0 L0 v1 L1 w h0 h1 => impl_equalVL v0 L0 v1 L1 w h0 h1) r0 c0 v0 L0 r1 c1 v1 L1 w h0 h1
set_option maxRecDepth 100000
set_option maxHeartbeats 4000000 in
theorem law_equalMatrices (W : World) (r0 q0 : Int) (v0 : Value) (zs0 : List Fr) (h0 : RatsAt W v0 zs0) (_ : True) (r1 q1 : Int) (v1 : Value) (zs1 : List Fr) (h1 : RatsAt W v1 zs1) (_ : True) :
    Calls Try.prog 11 #[.agg #[.int .i64 r0, .int .i64 q0, v0], .agg #[.int .i64 r1, .int .i64 q1, v1]] W fun e w' => e = .returned (.bool true) ∧ Below W.heap.size W w' := by
  have R0 := Lib.hid h0
  obtain ⟨a0, c0, rfl, g0, k0⟩ := ratsAt_form h0
  clear h0
  obtain ⟨m0, hm0'⟩ : ∃ n, zs0.length = n := ⟨_, rfl⟩
  rw [hm0'] at R0 g0 ⊢
  have N0 := Lib.hid hm0'
  clear hm0'
  have R1 := Lib.hid h1
  obtain ⟨a1, c1, rfl, g1, k1⟩ := ratsAt_form h1
  clear h1
  obtain ⟨m1, hm1'⟩ : ∃ n, zs1.length = n := ⟨_, rfl⟩
  rw [hm1'] at R1 g1 ⊢
  have N1 := Lib.hid hm1'
  clear hm1'
  by_cases hs0 : (zs0.length : Int) + szL zs0 ≤ 1048576
  rotate_left
  · go_enter Try.func11, Try.ntmps11
    go_wp2_with fail
    obtain ⟨W0, hW0⟩ : ∃ x, x = ((W.alloc (.cells #[.int .i64 r0, .int .i64 q0, .slice a0 m0 c0] 47)).alloc (.cells #[.int .i64 r1, .int .i64 q1, .slice a1 m1 c1] 47)) := ⟨_, rfl⟩
    have B := Lib.hid (show Below W.heap.size W W0 by rw [hW0]; exact (((Below.refl W.heap.size W).alloc (Nat.le_refl _) (.cells #[.int .i64 r0, .int .i64 q0, .slice a0 m0 c0] 47)).alloc (by simp) (.cells #[.int .i64 r1, .int .i64 q1, .slice a1 m1 c1] 47)))
    have D_a0 := Lib.hid (show B3 W0 W.heap.size 47 (.int .i64 r0) (.int .i64 q0) (.slice a0 m0 c0) by rw [hW0]; exact b3_at ((B3.new _ _ _ _ _).alloc _) (by simp))
    have D_a1 := Lib.hid (show B3 W0 (W.heap.size + 1) 47 (.int .i64 r1) (.int .i64 q1) (.slice a1 m1 c1) by rw [hW0]; exact b3_at (B3.new _ _ _ _ _) (by simp))
    have zw := Lib.hid (show W0.heap.size = W.heap.size + 1 + 1 by rw [hW0]; simp)
    rw [← hW0]
    clear hW0
    refine (sz_mat_no r0 q0 _ zs0 (1048576) _ (R0.out.below B.out) (by omega) (by omega)).mono ?_
    rintro e w1 ⟨rfl, bw1⟩
    replace D_a0 := Lib.hid (D_a0.out.below bw1)
    replace D_a1 := Lib.hid (D_a1.out.below bw1)
    replace B := Lib.hid (B.out.trans (bw1.mono B.out.size))
    have z_w1 := Lib.hid bw1.size
    clear bw1
    go_wp2
    go_ret
    exact ⟨rfl, B.out⟩
  by_cases hs1 : (zs1.length : Int) + szL zs1 ≤ 1048576 - (zs0.length : Int) - szL zs0
  rotate_left
  · go_enter Try.func11, Try.ntmps11
    go_wp2_with fail
    obtain ⟨W0, hW0⟩ : ∃ x, x = ((W.alloc (.cells #[.int .i64 r0, .int .i64 q0, .slice a0 m0 c0] 47)).alloc (.cells #[.int .i64 r1, .int .i64 q1, .slice a1 m1 c1] 47)) := ⟨_, rfl⟩
    have B := Lib.hid (show Below W.heap.size W W0 by rw [hW0]; exact (((Below.refl W.heap.size W).alloc (Nat.le_refl _) (.cells #[.int .i64 r0, .int .i64 q0, .slice a0 m0 c0] 47)).alloc (by simp) (.cells #[.int .i64 r1, .int .i64 q1, .slice a1 m1 c1] 47)))
    have D_a0 := Lib.hid (show B3 W0 W.heap.size 47 (.int .i64 r0) (.int .i64 q0) (.slice a0 m0 c0) by rw [hW0]; exact b3_at ((B3.new _ _ _ _ _).alloc _) (by simp))
    have D_a1 := Lib.hid (show B3 W0 (W.heap.size + 1) 47 (.int .i64 r1) (.int .i64 q1) (.slice a1 m1 c1) by rw [hW0]; exact b3_at (B3.new _ _ _ _ _) (by simp))
    have zw := Lib.hid (show W0.heap.size = W.heap.size + 1 + 1 by rw [hW0]; simp)
    rw [← hW0]
    clear hW0
    refine (sz_mat_yes r0 q0 _ zs0 (1048576) _ (R0.out.below B.out) (by omega) (by omega)).mono ?_
    rintro e w1 ⟨rfl, bw1⟩
    replace D_a0 := Lib.hid (D_a0.out.below bw1)
    replace D_a1 := Lib.hid (D_a1.out.below bw1)
    replace B := Lib.hid (B.out.trans (bw1.mono B.out.size))
    have z_w1 := Lib.hid bw1.size
    clear bw1
    have c0_a1 := D_a1.out.c0
    have c1_a1 := D_a1.out.c1
    have c2_a1 := D_a1.out.c2
    go_wp2_with fail
    clear c0_a1 c1_a1 c2_a1
    refine (sz_mat_no r1 q1 _ zs1 (1048576 - (zs0.length : Int) - szL zs0) _ (R1.out.below B.out) (by omega) (by omega)).mono ?_
    rintro e w2 ⟨rfl, bw2⟩
    replace D_a0 := Lib.hid (D_a0.out.below bw2)
    replace D_a1 := Lib.hid (D_a1.out.below bw2)
    replace B := Lib.hid (B.out.trans (bw2.mono B.out.size))
    have z_w2 := Lib.hid bw2.size
    clear bw2
    go_wp2
    go_ret
    exact ⟨rfl, B.out⟩
  have HL0 := Lib.hid (show ∀ f ∈ zs0, f.mag.length ≤ 1099511627776 ∧ f.den.length ≤ 1099511627776 from fun f hf => by have := szL_mem hf; omega)
  have HN0 := Lib.hid (show zs0.length ≤ 1048576 by omega)
  have HC0 := Lib.hid (show cntL zs0 ≤ 1048576 by unfold cntL; omega)
  have HL1 := Lib.hid (show ∀ f ∈ zs1, f.mag.length ≤ 1099511627776 ∧ f.den.length ≤ 1099511627776 from fun f hf => by have := szL_mem hf; omega)
  have HN1 := Lib.hid (show zs1.length ≤ 1048576 by omega)
  have HC1 := Lib.hid (show cntL zs1 ≤ 1048576 by unfold cntL; omega)
  go_enter Try.func11, Try.ntmps11
  go_wp2_with fail
  obtain ⟨W0, hW0⟩ : ∃ x, x = ((W.alloc (.cells #[.int .i64 r0, .int .i64 q0, .slice a0 m0 c0] 47)).alloc (.cells #[.int .i64 r1, .int .i64 q1, .slice a1 m1 c1] 47)) := ⟨_, rfl⟩
  have B := Lib.hid (show Below W.heap.size W W0 by rw [hW0]; exact (((Below.refl W.heap.size W).alloc (Nat.le_refl _) (.cells #[.int .i64 r0, .int .i64 q0, .slice a0 m0 c0] 47)).alloc (by simp) (.cells #[.int .i64 r1, .int .i64 q1, .slice a1 m1 c1] 47)))
  have D_a0 := Lib.hid (show B3 W0 W.heap.size 47 (.int .i64 r0) (.int .i64 q0) (.slice a0 m0 c0) by rw [hW0]; exact b3_at ((B3.new _ _ _ _ _).alloc _) (by simp))
  have D_a1 := Lib.hid (show B3 W0 (W.heap.size + 1) 47 (.int .i64 r1) (.int .i64 q1) (.slice a1 m1 c1) by rw [hW0]; exact b3_at (B3.new _ _ _ _ _) (by simp))
  have zw := Lib.hid (show W0.heap.size = W.heap.size + 1 + 1 by rw [hW0]; simp)
  rw [← hW0]
  clear hW0
  refine (sz_mat_yes r0 q0 _ zs0 (1048576) _ (R0.out.below B.out) (by omega) (by omega)).mono ?_
  rintro e w1 ⟨rfl, bw1⟩
  replace D_a0 := Lib.hid (D_a0.out.below bw1)
  replace D_a1 := Lib.hid (D_a1.out.below bw1)
  replace B := Lib.hid (B.out.trans (bw1.mono B.out.size))
  have z_w1 := Lib.hid bw1.size
  clear bw1
  have c0_a1 := D_a1.out.c0
  have c1_a1 := D_a1.out.c1
  have c2_a1 := D_a1.out.c2
  go_wp2_with fail
  clear c0_a1 c1_a1 c2_a1
  refine (sz_mat_yes r1 q1 _ zs1 (1048576 - (zs0.length : Int) - szL zs0) _ (R1.out.below B.out) (by omega) (by omega)).mono ?_
  rintro e w2 ⟨rfl, bw2⟩
  replace D_a0 := Lib.hid (D_a0.out.below bw2)
  replace D_a1 := Lib.hid (D_a1.out.below bw2)
  replace B := Lib.hid (B.out.trans (bw2.mono B.out.size))
  have z_w2 := Lib.hid bw2.size
  clear bw2
  go_wp2_with fail
  have c0_a0 := D_a0.out.c0
  have c1_a0 := D_a0.out.c1
  have c2_a0 := D_a0.out.c2
  have lt_a0 := D_a0.out.lt
  have c0_a1 := D_a1.out.c0
  have c1_a1 := D_a1.out.c1
  have c2_a1 := D_a1.out.c2
  have lt_a1 := D_a1.out.lt
  go_region_held3 (fun w' => w'.cell? ⟨W.heap.size, 0, none⟩ = some (.int .i64 r0) ∧ w'.cell? ⟨W.heap.size, 1, none⟩ = some (.int .i64 q0) ∧ w'.cell? ⟨W.heap.size, 2, none⟩ = some (.slice a0 m0 c0) ∧ w'.cell? ⟨(W.heap.size + 1), 0, none⟩ = some (.int .i64 r1) ∧ w'.cell? ⟨(W.heap.size + 1), 1, none⟩ = some (.int .i64 q1) ∧ w'.cell? ⟨(W.heap.size + 1), 2, none⟩ = some (.slice a1 m1 c1)) (first | exact ⟨g5_0_a0, g5_1_a0, g5_2_a0, g5_0_a1, g5_1_a1, g5_2_a1⟩ | exact ⟨g4_0_a0, g4_1_a0, g4_2_a0, g4_0_a1, g4_1_a1, g4_2_a1⟩ | exact ⟨g3_0_a0, g3_1_a0, g3_2_a0, g3_0_a1, g3_1_a1, g3_2_a1⟩ | exact ⟨c0_a0, c1_a0, c2_a0, c0_a1, c1_a1, c2_a1⟩)
    (first
      | (have := bb4; go_at_call 47; refine (spec_eqML r0 q0 _ zs0 r1 q1 _ zs1 _ (o_t1.rats.below bw4) o_t2.rats).mono ?_; rintro e w5 ⟨rfl, bw5⟩; have bb5 : Below w2.heap.size w2 w5 := bb4.trans (bw5.mono bb4.size); have g5_0_a0 := (bb5.cell (p := ⟨W.heap.size, 0, none⟩) lt_a0).trans c0_a0; have g5_1_a0 := (bb5.cell (p := ⟨W.heap.size, 1, none⟩) lt_a0).trans c1_a0; have g5_2_a0 := (bb5.cell (p := ⟨W.heap.size, 2, none⟩) lt_a0).trans c2_a0; have g5_0_a1 := (bb5.cell (p := ⟨(W.heap.size + 1), 0, none⟩) lt_a1).trans c0_a1; have g5_1_a1 := (bb5.cell (p := ⟨(W.heap.size + 1), 1, none⟩) lt_a1).trans c1_a1; have g5_2_a1 := (bb5.cell (p := ⟨(W.heap.size + 1), 2, none⟩) lt_a1).trans c2_a1)
      | (have := bb3; go_at_call 25; refine (to_mat r1 q1 _ zs1 _ (R1.out.below (B.out.trans (Below.mono bb3 B.out.size))) HN1.out HL1.out).mono ?_; rintro e w4 ⟨v_t2, x_t2, rfl, o_t2, bw4⟩; obtain ⟨a_t2, c_t2, rfl⟩ := o_t2.slice; have bb4 : Below w2.heap.size w2 w4 := bb3.trans (bw4.mono bb3.size); have g4_0_a0 := (bb4.cell (p := ⟨W.heap.size, 0, none⟩) lt_a0).trans c0_a0; have g4_1_a0 := (bb4.cell (p := ⟨W.heap.size, 1, none⟩) lt_a0).trans c1_a0; have g4_2_a0 := (bb4.cell (p := ⟨W.heap.size, 2, none⟩) lt_a0).trans c2_a0; have g4_0_a1 := (bb4.cell (p := ⟨(W.heap.size + 1), 0, none⟩) lt_a1).trans c0_a1; have g4_1_a1 := (bb4.cell (p := ⟨(W.heap.size + 1), 1, none⟩) lt_a1).trans c1_a1; have g4_2_a1 := (bb4.cell (p := ⟨(W.heap.size + 1), 2, none⟩) lt_a1).trans c2_a1)
      | (go_at_call 25; refine (to_mat r0 q0 _ zs0 _ (R0.out.below (B.out.trans (Below.mono (by first | exact Below.refl _ _ | exact (Below.refl _ _).drew) B.out.size))) HN0.out HL0.out).mono ?_; rintro e w3 ⟨v_t1, x_t1, rfl, o_t1, bw3⟩; obtain ⟨a_t1, c_t1, rfl⟩ := o_t1.slice; have bb3 : Below w2.heap.size w2 w3 := (by first | exact bw3 | exact ((Below.refl _ _).drew).trans bw3); have g3_0_a0 := (bb3.cell (p := ⟨W.heap.size, 0, none⟩) lt_a0).trans c0_a0; have g3_1_a0 := (bb3.cell (p := ⟨W.heap.size, 1, none⟩) lt_a0).trans c1_a0; have g3_2_a0 := (bb3.cell (p := ⟨W.heap.size, 2, none⟩) lt_a0).trans c2_a0; have g3_0_a1 := (bb3.cell (p := ⟨(W.heap.size + 1), 0, none⟩) lt_a1).trans c0_a1; have g3_1_a1 := (bb3.cell (p := ⟨(W.heap.size + 1), 1, none⟩) lt_a1).trans c1_a1; have g3_2_a1 := (bb3.cell (p := ⟨(W.heap.size + 1), 2, none⟩) lt_a1).trans c2_a1))
  clear bw3
  have bw3 := bb3
  replace o_t1 : OwnV w3 w2.heap.size _ _ _ := o_t1
  replace D_a0 := Lib.hid (D_a0.out.below bw3)
  replace D_a1 := Lib.hid (D_a1.out.below bw3)
  replace B := Lib.hid (B.out.trans (bw3.mono B.out.size))
  have z_w3 := Lib.hid bw3.size
  have O_t1 := Lib.hid o_t1
  have L_t1 := Lib.hid o_t1.lt
  clear o_t1
  clear bw3
  clear g3_0_a0 g3_1_a0 g3_2_a0
  clear g3_0_a1 g3_1_a1 g3_2_a1
  replace O_t1 := Lib.hid (O_t1.out.below bw4)
  replace D_a0 := Lib.hid (D_a0.out.below bw4)
  replace D_a1 := Lib.hid (D_a1.out.below bw4)
  replace B := Lib.hid (B.out.trans (bw4.mono B.out.size))
  have z_w4 := Lib.hid bw4.size
  have O_t2 := Lib.hid o_t2
  have L_t2 := Lib.hid o_t2.lt
  clear o_t2
  clear bw4
  clear g4_0_a0 g4_1_a0 g4_2_a0
  clear g4_0_a1 g4_1_a1 g4_2_a1
  replace O_t1 := Lib.hid (O_t1.out.below bw5)
  replace O_t2 := Lib.hid (O_t2.out.below bw5)
  replace D_a0 := Lib.hid (D_a0.out.below bw5)
  replace D_a1 := Lib.hid (D_a1.out.below bw5)
  replace B := Lib.hid (B.out.trans (bw5.mono B.out.size))
  have z_w5 := Lib.hid bw5.size
  clear bw5
  clear g5_0_a0 g5_1_a0 g5_2_a0
  clear g5_0_a1 g5_1_a1 g5_2_a1
  clear bb3 bb4 bb5
  clear c0_a0 c1_a0 c2_a0 lt_a0
  clear c0_a1 c1_a1 c2_a1 lt_a1
  clear O_t1 L_t1
  clear O_t2 L_t2
  have c0_a0 := D_a0.out.c0
  have c1_a0 := D_a0.out.c1
  have c2_a0 := D_a0.out.c2
  go_wp2_with fail
  clear c0_a0 c1_a0 c2_a0
  refine (to_mat r0 q0 _ zs0 _ (R0.out.below B.out) HN0.out HL0.out).mono ?_
  rintro e w6 ⟨v_x0, x_x0, rfl, o_x0, bw6⟩
  obtain ⟨a_x0, c_x0, rfl⟩ := o_x0.slice
  replace D_a0 := Lib.hid (D_a0.out.below bw6)
  replace D_a1 := Lib.hid (D_a1.out.below bw6)
  replace B := Lib.hid (B.out.trans (bw6.mono B.out.size))
  have z_w6 := Lib.hid bw6.size
  have O_x0 := Lib.hid o_x0
  have L_x0 := Lib.hid o_x0.lt
  clear o_x0
  clear bw6
  have c0_a1 := D_a1.out.c0
  have c1_a1 := D_a1.out.c1
  have c2_a1 := D_a1.out.c2
  have lt_a1 := D_a1.out.lt
  have hz := B.out.size
  go_wp2_with fail
  clear c0_a1 c1_a1 c2_a1 lt_a1
  clear hz
  obtain ⟨w7, hW0⟩ : ∃ x, x = w6.alloc (.cells #[.int .i64 r0, .int .i64 q0, .slice a_x0 zs0.length c_x0] 25) := ⟨_, rfl⟩
  replace O_x0 := Lib.hid (show OwnV w7 _ _ _ _ by rw [hW0]; exact O_x0.out.alloc _)
  replace D_a0 := Lib.hid (show B3 w7 _ _ _ _ _ by rw [hW0]; exact D_a0.out.alloc _)
  replace D_a1 := Lib.hid (show B3 w7 _ _ _ _ _ by rw [hW0]; exact D_a1.out.alloc _)
  have D_x0 := Lib.hid (show B3 w7 w6.heap.size 25 (.int .i64 r0) (.int .i64 q0) (.slice a_x0 zs0.length c_x0) by rw [hW0]; exact B3.new _ _ _ _ _)
  replace B := Lib.hid (show Below W.heap.size W w7 by rw [hW0]; exact B.out.alloc B.out.size _)
  have z_w7 := Lib.hid (show w7.heap.size = w6.heap.size + 1 by rw [hW0]; simp)
  rw [← hW0]
  clear hW0
  refine (to_mat r1 q1 _ zs1 _ (R1.out.below B.out) HN1.out HL1.out).mono ?_
  rintro e w8 ⟨v_x1, x_x1, rfl, o_x1, bw8⟩
  obtain ⟨a_x1, c_x1, rfl⟩ := o_x1.slice
  replace O_x0 := Lib.hid (O_x0.out.below bw8)
  replace D_a0 := Lib.hid (D_a0.out.below bw8)
  replace D_a1 := Lib.hid (D_a1.out.below bw8)
  replace D_x0 := Lib.hid (D_x0.out.below bw8)
  replace B := Lib.hid (B.out.trans (bw8.mono B.out.size))
  have z_w8 := Lib.hid bw8.size
  have O_x1 := Lib.hid o_x1
  have L_x1 := Lib.hid o_x1.lt
  clear o_x1
  clear bw8
  have c0_x0 := D_x0.out.c0
  have c1_x0 := D_x0.out.c1
  have c2_x0 := D_x0.out.c2
  have lt_x0 := D_x0.out.lt
  have hz := B.out.size
  go_wp2_with fail
  clear c0_x0 c1_x0 c2_x0 lt_x0
  clear hz
  obtain ⟨w9, hW0⟩ : ∃ x, x = w8.alloc (.cells #[.int .i64 r1, .int .i64 q1, .slice a_x1 zs1.length c_x1] 25) := ⟨_, rfl⟩
  replace O_x0 := Lib.hid (show OwnV w9 _ _ _ _ by rw [hW0]; exact O_x0.out.alloc _)
  replace O_x1 := Lib.hid (show OwnV w9 _ _ _ _ by rw [hW0]; exact O_x1.out.alloc _)
  replace D_a0 := Lib.hid (show B3 w9 _ _ _ _ _ by rw [hW0]; exact D_a0.out.alloc _)
  replace D_a1 := Lib.hid (show B3 w9 _ _ _ _ _ by rw [hW0]; exact D_a1.out.alloc _)
  replace D_x0 := Lib.hid (show B3 w9 _ _ _ _ _ by rw [hW0]; exact D_x0.out.alloc _)
  have D_x1 := Lib.hid (show B3 w9 w8.heap.size 25 (.int .i64 r1) (.int .i64 q1) (.slice a_x1 zs1.length c_x1) by rw [hW0]; exact B3.new _ _ _ _ _)
  replace B := Lib.hid (show Below W.heap.size W w9 by rw [hW0]; exact B.out.alloc B.out.size _)
  have z_w9 := Lib.hid (show w9.heap.size = w8.heap.size + 1 by rw [hW0]; simp)
  rw [← hW0]
  clear hW0
  have hc9 := impl_eqML r0 q0 _ zs0 r1 q1 _ zs1 w9 O_x0.out.rats O_x1.out.rats
  refine (hc9).mono ?_
  rintro e w10 ⟨rfl, bw10⟩
  replace O_x0 := Lib.hid (O_x0.out.below bw10)
  replace O_x1 := Lib.hid (O_x1.out.below bw10)
  replace D_a0 := Lib.hid (D_a0.out.below bw10)
  replace D_a1 := Lib.hid (D_a1.out.below bw10)
  replace D_x0 := Lib.hid (D_x0.out.below bw10)
  replace D_x1 := Lib.hid (D_x1.out.below bw10)
  replace B := Lib.hid (B.out.trans (bw10.mono B.out.size))
  have z_w10 := Lib.hid bw10.size
  clear bw10
  go_wp2_with fail
  have c0_x0 := D_x0.out.c0
  have c1_x0 := D_x0.out.c1
  have c2_x0 := D_x0.out.c2
  have lt_x0 := D_x0.out.lt
  have c0_a0 := D_a0.out.c0
  have c1_a0 := D_a0.out.c1
  have c2_a0 := D_a0.out.c2
  have lt_a0 := D_a0.out.lt
  go_region_held3 (fun w' => w'.cell? ⟨w6.heap.size, 0, none⟩ = some (.int .i64 r0) ∧ w'.cell? ⟨w6.heap.size, 1, none⟩ = some (.int .i64 q0) ∧ w'.cell? ⟨w6.heap.size, 2, none⟩ = some (.slice a_x0 zs0.length c_x0) ∧ w'.cell? ⟨W.heap.size, 0, none⟩ = some (.int .i64 r0) ∧ w'.cell? ⟨W.heap.size, 1, none⟩ = some (.int .i64 q0) ∧ w'.cell? ⟨W.heap.size, 2, none⟩ = some (.slice a0 m0 c0)) (first | exact ⟨g12_0_x0, g12_1_x0, g12_2_x0, g12_0_a0, g12_1_a0, g12_2_a0⟩ | exact ⟨g11_0_x0, g11_1_x0, g11_2_x0, g11_0_a0, g11_1_a0, g11_2_a0⟩ | exact ⟨c0_x0, c1_x0, c2_x0, c0_a0, c1_a0, c2_a0⟩)
    (first
      | (have := bb11; go_at_call 26; refine (eq_mat _ _ _ _ _ _ (O_x0.out.rats.below bb11) o_t3.rats HN0.out).mono ?_; rintro e w12 ⟨rfl, bw12⟩; have bb12 : Below w10.heap.size w10 w12 := bb11.trans (bw12.mono bb11.size); have g12_0_x0 := (bb12.cell (p := ⟨w6.heap.size, 0, none⟩) lt_x0).trans c0_x0; have g12_1_x0 := (bb12.cell (p := ⟨w6.heap.size, 1, none⟩) lt_x0).trans c1_x0; have g12_2_x0 := (bb12.cell (p := ⟨w6.heap.size, 2, none⟩) lt_x0).trans c2_x0; have g12_0_a0 := (bb12.cell (p := ⟨W.heap.size, 0, none⟩) lt_a0).trans c0_a0; have g12_1_a0 := (bb12.cell (p := ⟨W.heap.size, 1, none⟩) lt_a0).trans c1_a0; have g12_2_a0 := (bb12.cell (p := ⟨W.heap.size, 2, none⟩) lt_a0).trans c2_a0)
      | (go_at_call 25; refine (to_mat r0 q0 _ zs0 _ (R0.out.below (B.out.trans (Below.mono (by first | exact Below.refl _ _ | exact (Below.refl _ _).drew) B.out.size))) HN0.out HL0.out).mono ?_; rintro e w11 ⟨v_t3, x_t3, rfl, o_t3, bw11⟩; obtain ⟨a_t3, c_t3, rfl⟩ := o_t3.slice; have bb11 : Below w10.heap.size w10 w11 := (by first | exact bw11 | exact ((Below.refl _ _).drew).trans bw11); have g11_0_x0 := (bb11.cell (p := ⟨w6.heap.size, 0, none⟩) lt_x0).trans c0_x0; have g11_1_x0 := (bb11.cell (p := ⟨w6.heap.size, 1, none⟩) lt_x0).trans c1_x0; have g11_2_x0 := (bb11.cell (p := ⟨w6.heap.size, 2, none⟩) lt_x0).trans c2_x0; have g11_0_a0 := (bb11.cell (p := ⟨W.heap.size, 0, none⟩) lt_a0).trans c0_a0; have g11_1_a0 := (bb11.cell (p := ⟨W.heap.size, 1, none⟩) lt_a0).trans c1_a0; have g11_2_a0 := (bb11.cell (p := ⟨W.heap.size, 2, none⟩) lt_a0).trans c2_a0))
  clear bw11
  have bw11 := bb11
  replace o_t3 : OwnV w11 w10.heap.size _ _ _ := o_t3
  replace O_x0 := Lib.hid (O_x0.out.below bw11)
  replace O_x1 := Lib.hid (O_x1.out.below bw11)
  replace D_a0 := Lib.hid (D_a0.out.below bw11)
  replace D_a1 := Lib.hid (D_a1.out.below bw11)
  replace D_x0 := Lib.hid (D_x0.out.below bw11)
  replace D_x1 := Lib.hid (D_x1.out.below bw11)
  replace B := Lib.hid (B.out.trans (bw11.mono B.out.size))
  have z_w11 := Lib.hid bw11.size
  have O_t3 := Lib.hid o_t3
  have L_t3 := Lib.hid o_t3.lt
  clear o_t3
  clear bw11
  clear g11_0_x0 g11_1_x0 g11_2_x0
  clear g11_0_a0 g11_1_a0 g11_2_a0
  replace O_x0 := Lib.hid (O_x0.out.below bw12)
  replace O_x1 := Lib.hid (O_x1.out.below bw12)
  replace O_t3 := Lib.hid (O_t3.out.below bw12)
  replace D_a0 := Lib.hid (D_a0.out.below bw12)
  replace D_a1 := Lib.hid (D_a1.out.below bw12)
  replace D_x0 := Lib.hid (D_x0.out.below bw12)
  replace D_x1 := Lib.hid (D_x1.out.below bw12)
  replace B := Lib.hid (B.out.trans (bw12.mono B.out.size))
  have z_w12 := Lib.hid bw12.size
  clear bw12
  clear g12_0_x0 g12_1_x0 g12_2_x0
  clear g12_0_a0 g12_1_a0 g12_2_a0
  clear bb11 bb12
  clear c0_x0 c1_x0 c2_x0 lt_x0
  clear c0_a0 c1_a0 c2_a0 lt_a0
  clear O_t3 L_t3
  go_wp2_with fail
  have c0_x1 := D_x1.out.c0
  have c1_x1 := D_x1.out.c1
  have c2_x1 := D_x1.out.c2
  have lt_x1 := D_x1.out.lt
  have c0_a1 := D_a1.out.c0
  have c1_a1 := D_a1.out.c1
  have c2_a1 := D_a1.out.c2
  have lt_a1 := D_a1.out.lt
  go_region_held3 (fun w' => w'.cell? ⟨w8.heap.size, 0, none⟩ = some (.int .i64 r1) ∧ w'.cell? ⟨w8.heap.size, 1, none⟩ = some (.int .i64 q1) ∧ w'.cell? ⟨w8.heap.size, 2, none⟩ = some (.slice a_x1 zs1.length c_x1) ∧ w'.cell? ⟨(W.heap.size + 1), 0, none⟩ = some (.int .i64 r1) ∧ w'.cell? ⟨(W.heap.size + 1), 1, none⟩ = some (.int .i64 q1) ∧ w'.cell? ⟨(W.heap.size + 1), 2, none⟩ = some (.slice a1 m1 c1)) (first | exact ⟨g14_0_x1, g14_1_x1, g14_2_x1, g14_0_a1, g14_1_a1, g14_2_a1⟩ | exact ⟨g13_0_x1, g13_1_x1, g13_2_x1, g13_0_a1, g13_1_a1, g13_2_a1⟩ | exact ⟨c0_x1, c1_x1, c2_x1, c0_a1, c1_a1, c2_a1⟩)
    (first
      | (have := bb13; go_at_call 26; refine (eq_mat _ _ _ _ _ _ (O_x1.out.rats.below bb13) o_t4.rats HN1.out).mono ?_; rintro e w14 ⟨rfl, bw14⟩; have bb14 : Below w12.heap.size w12 w14 := bb13.trans (bw14.mono bb13.size); have g14_0_x1 := (bb14.cell (p := ⟨w8.heap.size, 0, none⟩) lt_x1).trans c0_x1; have g14_1_x1 := (bb14.cell (p := ⟨w8.heap.size, 1, none⟩) lt_x1).trans c1_x1; have g14_2_x1 := (bb14.cell (p := ⟨w8.heap.size, 2, none⟩) lt_x1).trans c2_x1; have g14_0_a1 := (bb14.cell (p := ⟨(W.heap.size + 1), 0, none⟩) lt_a1).trans c0_a1; have g14_1_a1 := (bb14.cell (p := ⟨(W.heap.size + 1), 1, none⟩) lt_a1).trans c1_a1; have g14_2_a1 := (bb14.cell (p := ⟨(W.heap.size + 1), 2, none⟩) lt_a1).trans c2_a1)
      | (go_at_call 25; refine (to_mat r1 q1 _ zs1 _ (R1.out.below (B.out.trans (Below.mono (by first | exact Below.refl _ _ | exact (Below.refl _ _).drew) B.out.size))) HN1.out HL1.out).mono ?_; rintro e w13 ⟨v_t4, x_t4, rfl, o_t4, bw13⟩; obtain ⟨a_t4, c_t4, rfl⟩ := o_t4.slice; have bb13 : Below w12.heap.size w12 w13 := (by first | exact bw13 | exact ((Below.refl _ _).drew).trans bw13); have g13_0_x1 := (bb13.cell (p := ⟨w8.heap.size, 0, none⟩) lt_x1).trans c0_x1; have g13_1_x1 := (bb13.cell (p := ⟨w8.heap.size, 1, none⟩) lt_x1).trans c1_x1; have g13_2_x1 := (bb13.cell (p := ⟨w8.heap.size, 2, none⟩) lt_x1).trans c2_x1; have g13_0_a1 := (bb13.cell (p := ⟨(W.heap.size + 1), 0, none⟩) lt_a1).trans c0_a1; have g13_1_a1 := (bb13.cell (p := ⟨(W.heap.size + 1), 1, none⟩) lt_a1).trans c1_a1; have g13_2_a1 := (bb13.cell (p := ⟨(W.heap.size + 1), 2, none⟩) lt_a1).trans c2_a1))
  clear bw13
  have bw13 := bb13
  replace o_t4 : OwnV w13 w12.heap.size _ _ _ := o_t4
  replace O_x0 := Lib.hid (O_x0.out.below bw13)
  replace O_x1 := Lib.hid (O_x1.out.below bw13)
  replace D_a0 := Lib.hid (D_a0.out.below bw13)
  replace D_a1 := Lib.hid (D_a1.out.below bw13)
  replace D_x0 := Lib.hid (D_x0.out.below bw13)
  replace D_x1 := Lib.hid (D_x1.out.below bw13)
  replace B := Lib.hid (B.out.trans (bw13.mono B.out.size))
  have z_w13 := Lib.hid bw13.size
  have O_t4 := Lib.hid o_t4
  have L_t4 := Lib.hid o_t4.lt
  clear o_t4
  clear bw13
  clear g13_0_x1 g13_1_x1 g13_2_x1
  clear g13_0_a1 g13_1_a1 g13_2_a1
  replace O_x0 := Lib.hid (O_x0.out.below bw14)
  replace O_x1 := Lib.hid (O_x1.out.below bw14)
  replace O_t4 := Lib.hid (O_t4.out.below bw14)
  replace D_a0 := Lib.hid (D_a0.out.below bw14)
  replace D_a1 := Lib.hid (D_a1.out.below bw14)
  replace D_x0 := Lib.hid (D_x0.out.below bw14)
  replace D_x1 := Lib.hid (D_x1.out.below bw14)
  replace B := Lib.hid (B.out.trans (bw14.mono B.out.size))
  have z_w14 := Lib.hid bw14.size
  clear bw14
  clear g14_0_x1 g14_1_x1 g14_2_x1
  clear g14_0_a1 g14_1_a1 g14_2_a1
  clear bb13 bb14
  clear c0_x1 c1_x1 c2_x1 lt_x1
  clear c0_a1 c1_a1 c2_a1 lt_a1
  clear O_t4 L_t4
  go_wp2
  go_ret
  exact ⟨rfl, B.out⟩


end Go.Proofs.Ytojklmckjebplaa
