/- The exact law of RankOf. -/
import Derived.Test.YtlepgkkpopjgoaaGreatZElRank
import Derived.Test.YtlepgkkpopjgoaaGreatZVecx
import Derived.Deep.CutBlock
import Derived.Deep.CutRange
import Derived.Deep.RegionHeld3
namespace Go.Proofs.YtlepgkkpopjgoaaGreat
open Go.RowKit Go.WideShapes Go.ChangeShapes
set_option linter.unusedVariables false
set_option linter.unusedSimpArgs false
set_option maxRecDepth 100000
set_option maxHeartbeats 4000000 in
theorem law_rankOf (W : World) (r0 q0 : Int) (v0 : Value) (zs0 : List Fr) (h0 : RatsAt W v0 zs0) (_ : True) :
    Calls Tryz.prog 6 #[.agg #[.int .i64 r0, .int .i64 q0, v0]] W fun e w' => e = .returned (.bool true) ∧ Below W.heap.size W w' := by
  have R0 := Lib.hid h0
  obtain ⟨a0, c0, rfl, g0, k0⟩ := ratsAt_form h0
  clear h0
  obtain ⟨m0, hm0'⟩ : ∃ n, zs0.length = n := ⟨_, rfl⟩
  rw [hm0'] at R0 g0 ⊢
  have N0 := Lib.hid hm0'
  clear hm0'
  by_cases hs0 : (zs0.length : Int) + szL zs0 ≤ 1048576
  rotate_left
  · go_enter Tryz.func6, Tryz.ntmps6
    go_wp2_with fail
    obtain ⟨W0, hW0⟩ : ∃ x, x = (W.alloc (.cells #[.int .i64 r0, .int .i64 q0, .slice a0 m0 c0] 55)) := ⟨_, rfl⟩
    have B := Lib.hid (show Below W.heap.size W W0 by rw [hW0]; exact ((Below.refl W.heap.size W).alloc (Nat.le_refl _) (.cells #[.int .i64 r0, .int .i64 q0, .slice a0 m0 c0] 55)))
    have D_a0 := Lib.hid (show B3 W0 W.heap.size 55 (.int .i64 r0) (.int .i64 q0) (.slice a0 m0 c0) by rw [hW0]; exact b3_at (B3.new _ _ _ _ _) (by simp))
    have zw := Lib.hid (show W0.heap.size = W.heap.size + 1 by rw [hW0]; simp)
    rw [← hW0]
    clear hW0
    refine (sz_mat_no r0 q0 _ zs0 (1048576) _ (R0.out.below B.out) (by omega) (by omega)).mono ?_
    rintro e w1 ⟨rfl, bw1⟩
    replace D_a0 := Lib.hid (D_a0.out.below bw1)
    replace B := Lib.hid (B.out.trans (bw1.mono B.out.size))
    have z_w1 := Lib.hid bw1.size
    clear bw1
    go_wp2
    go_ret
    exact ⟨rfl, B.out⟩
  have HL0 := Lib.hid (show ∀ f ∈ zs0, f.mag.length ≤ 1099511627776 ∧ f.den.length ≤ 1099511627776 from fun f hf => by have := szL_mem hf; omega)
  have HN0 := Lib.hid (show zs0.length ≤ 1048576 by omega)
  have HC0 := Lib.hid (show cntL zs0 ≤ 1048576 by unfold cntL; omega)
  go_enter Tryz.func6, Tryz.ntmps6
  go_wp2_with fail
  obtain ⟨W0, hW0⟩ : ∃ x, x = (W.alloc (.cells #[.int .i64 r0, .int .i64 q0, .slice a0 m0 c0] 55)) := ⟨_, rfl⟩
  have B := Lib.hid (show Below W.heap.size W W0 by rw [hW0]; exact ((Below.refl W.heap.size W).alloc (Nat.le_refl _) (.cells #[.int .i64 r0, .int .i64 q0, .slice a0 m0 c0] 55)))
  have D_a0 := Lib.hid (show B3 W0 W.heap.size 55 (.int .i64 r0) (.int .i64 q0) (.slice a0 m0 c0) by rw [hW0]; exact b3_at (B3.new _ _ _ _ _) (by simp))
  have zw := Lib.hid (show W0.heap.size = W.heap.size + 1 by rw [hW0]; simp)
  rw [← hW0]
  clear hW0
  refine (sz_mat_yes r0 q0 _ zs0 (1048576) _ (R0.out.below B.out) (by omega) (by omega)).mono ?_
  rintro e w1 ⟨rfl, bw1⟩
  replace D_a0 := Lib.hid (D_a0.out.below bw1)
  replace B := Lib.hid (B.out.trans (bw1.mono B.out.size))
  have z_w1 := Lib.hid bw1.size
  clear bw1
  have c0_a0 := D_a0.out.c0
  have c1_a0 := D_a0.out.c1
  have c2_a0 := D_a0.out.c2
  go_wp2_with fail
  clear c0_a0 c1_a0 c2_a0
  refine (to_mat r0 q0 _ zs0 _ (R0.out.below B.out) HN0.out HL0.out).mono ?_
  rintro e w2 ⟨v_t1, x_t1, rfl, o_t1, bw2⟩
  obtain ⟨a_t1, c_t1, rfl⟩ := o_t1.slice
  replace D_a0 := Lib.hid (D_a0.out.below bw2)
  replace B := Lib.hid (B.out.trans (bw2.mono B.out.size))
  have z_w2 := Lib.hid bw2.size
  have O_t1 := Lib.hid o_t1
  have L_t1 := Lib.hid o_t1.lt
  clear o_t1
  clear bw2
  go_wp2_with fail
  have hc9 := spec_rankM r0 q0 _ zs0 w2 O_t1.out.rats
  refine (hc9).mono ?_
  rintro e w3 ⟨rfl, bw3⟩
  replace O_t1 := Lib.hid (O_t1.out.below bw3)
  replace D_a0 := Lib.hid (D_a0.out.below bw3)
  replace B := Lib.hid (B.out.trans (bw3.mono B.out.size))
  have z_w3 := Lib.hid bw3.size
  clear bw3
  clear O_t1 L_t1
  have c0_a0 := D_a0.out.c0
  have c1_a0 := D_a0.out.c1
  have c2_a0 := D_a0.out.c2
  go_wp2_with fail
  clear c0_a0 c1_a0 c2_a0
  refine (to_mat r0 q0 _ zs0 _ (R0.out.below B.out) HN0.out HL0.out).mono ?_
  rintro e w4 ⟨v_x0, x_x0, rfl, o_x0, bw4⟩
  obtain ⟨a_x0, c_x0, rfl⟩ := o_x0.slice
  replace D_a0 := Lib.hid (D_a0.out.below bw4)
  replace B := Lib.hid (B.out.trans (bw4.mono B.out.size))
  have z_w4 := Lib.hid bw4.size
  have O_x0 := Lib.hid o_x0
  have L_x0 := Lib.hid o_x0.lt
  clear o_x0
  clear bw4
  have hz := B.out.size
  go_wp2_with fail
  clear hz
  obtain ⟨w5, hW0⟩ : ∃ x, x = w4.alloc (.cells #[.int .i64 r0, .int .i64 q0, .slice a_x0 zs0.length c_x0] 25) := ⟨_, rfl⟩
  replace O_x0 := Lib.hid (show OwnV w5 _ _ _ _ by rw [hW0]; exact O_x0.out.alloc _)
  replace D_a0 := Lib.hid (show B3 w5 _ _ _ _ _ by rw [hW0]; exact D_a0.out.alloc _)
  have D_x0 := Lib.hid (show B3 w5 w4.heap.size 25 (.int .i64 r0) (.int .i64 q0) (.slice a_x0 zs0.length c_x0) by rw [hW0]; exact B3.new _ _ _ _ _)
  replace B := Lib.hid (show Below W.heap.size W w5 by rw [hW0]; exact B.out.alloc B.out.size _)
  have z_w5 := Lib.hid (show w5.heap.size = w4.heap.size + 1 by rw [hW0]; simp)
  rw [← hW0]
  clear hW0
  have hc9 := impl_rankM r0 q0 _ zs0 w5 O_x0.out.rats
  refine (hc9).mono ?_
  rintro e w6 ⟨rfl, bw6⟩
  replace O_x0 := Lib.hid (O_x0.out.below bw6)
  replace D_a0 := Lib.hid (D_a0.out.below bw6)
  replace D_x0 := Lib.hid (D_x0.out.below bw6)
  replace B := Lib.hid (B.out.trans (bw6.mono B.out.size))
  have z_w6 := Lib.hid bw6.size
  clear bw6
  go_wp2_with fail
  have c0_x0 := D_x0.out.c0
  have c1_x0 := D_x0.out.c1
  have c2_x0 := D_x0.out.c2
  have lt_x0 := D_x0.out.lt
  have c0_a0 := D_a0.out.c0
  have c1_a0 := D_a0.out.c1
  have c2_a0 := D_a0.out.c2
  have lt_a0 := D_a0.out.lt
  go_region_held3 (fun w' => w'.cell? ⟨w4.heap.size, 0, none⟩ = some (.int .i64 r0) ∧ w'.cell? ⟨w4.heap.size, 1, none⟩ = some (.int .i64 q0) ∧ w'.cell? ⟨w4.heap.size, 2, none⟩ = some (.slice a_x0 zs0.length c_x0) ∧ w'.cell? ⟨W.heap.size, 0, none⟩ = some (.int .i64 r0) ∧ w'.cell? ⟨W.heap.size, 1, none⟩ = some (.int .i64 q0) ∧ w'.cell? ⟨W.heap.size, 2, none⟩ = some (.slice a0 m0 c0)) (first | exact ⟨g8_0_x0, g8_1_x0, g8_2_x0, g8_0_a0, g8_1_a0, g8_2_a0⟩ | exact ⟨g7_0_x0, g7_1_x0, g7_2_x0, g7_0_a0, g7_1_a0, g7_2_a0⟩ | exact ⟨c0_x0, c1_x0, c2_x0, c0_a0, c1_a0, c2_a0⟩)
    (first
      | (have := bb7; go_at_call 30; refine (eq_mat _ _ _ _ _ _ (O_x0.out.rats.below bb7) o_t2.rats HN0.out).mono ?_; rintro e w8 ⟨rfl, bw8⟩; have bb8 : Below w6.heap.size w6 w8 := bb7.trans (bw8.mono bb7.size); have g8_0_x0 := (bb8.cell (p := ⟨w4.heap.size, 0, none⟩) lt_x0).trans c0_x0; have g8_1_x0 := (bb8.cell (p := ⟨w4.heap.size, 1, none⟩) lt_x0).trans c1_x0; have g8_2_x0 := (bb8.cell (p := ⟨w4.heap.size, 2, none⟩) lt_x0).trans c2_x0; have g8_0_a0 := (bb8.cell (p := ⟨W.heap.size, 0, none⟩) lt_a0).trans c0_a0; have g8_1_a0 := (bb8.cell (p := ⟨W.heap.size, 1, none⟩) lt_a0).trans c1_a0; have g8_2_a0 := (bb8.cell (p := ⟨W.heap.size, 2, none⟩) lt_a0).trans c2_a0)
      | (go_at_call 29; refine (to_mat r0 q0 _ zs0 _ (R0.out.below (B.out.trans (Below.mono (by first | exact Below.refl _ _ | exact (Below.refl _ _).drew) B.out.size))) HN0.out HL0.out).mono ?_; rintro e w7 ⟨v_t2, x_t2, rfl, o_t2, bw7⟩; obtain ⟨a_t2, c_t2, rfl⟩ := o_t2.slice; have bb7 : Below w6.heap.size w6 w7 := (by first | exact bw7 | exact ((Below.refl _ _).drew).trans bw7); have g7_0_x0 := (bb7.cell (p := ⟨w4.heap.size, 0, none⟩) lt_x0).trans c0_x0; have g7_1_x0 := (bb7.cell (p := ⟨w4.heap.size, 1, none⟩) lt_x0).trans c1_x0; have g7_2_x0 := (bb7.cell (p := ⟨w4.heap.size, 2, none⟩) lt_x0).trans c2_x0; have g7_0_a0 := (bb7.cell (p := ⟨W.heap.size, 0, none⟩) lt_a0).trans c0_a0; have g7_1_a0 := (bb7.cell (p := ⟨W.heap.size, 1, none⟩) lt_a0).trans c1_a0; have g7_2_a0 := (bb7.cell (p := ⟨W.heap.size, 2, none⟩) lt_a0).trans c2_a0))
  clear bw7
  have bw7 := bb7
  replace o_t2 : OwnV w7 w6.heap.size _ _ _ := o_t2
  replace O_x0 := Lib.hid (O_x0.out.below bw7)
  replace D_a0 := Lib.hid (D_a0.out.below bw7)
  replace D_x0 := Lib.hid (D_x0.out.below bw7)
  replace B := Lib.hid (B.out.trans (bw7.mono B.out.size))
  have z_w7 := Lib.hid bw7.size
  have O_t2 := Lib.hid o_t2
  have L_t2 := Lib.hid o_t2.lt
  clear o_t2
  clear bw7
  clear g7_0_x0 g7_1_x0 g7_2_x0
  clear g7_0_a0 g7_1_a0 g7_2_a0
  replace O_x0 := Lib.hid (O_x0.out.below bw8)
  replace O_t2 := Lib.hid (O_t2.out.below bw8)
  replace D_a0 := Lib.hid (D_a0.out.below bw8)
  replace D_x0 := Lib.hid (D_x0.out.below bw8)
  replace B := Lib.hid (B.out.trans (bw8.mono B.out.size))
  have z_w8 := Lib.hid bw8.size
  clear bw8
  clear g8_0_x0 g8_1_x0 g8_2_x0
  clear g8_0_a0 g8_1_a0 g8_2_a0
  clear bb7 bb8
  clear c0_x0 c1_x0 c2_x0 lt_x0
  clear c0_a0 c1_a0 c2_a0 lt_a0
  clear O_t2 L_t2
  go_wp2
  go_ret
  exact ⟨rfl, B.out⟩

end Go.Proofs.YtlepgkkpopjgoaaGreat
