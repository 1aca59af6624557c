/- The exact law of Determinant. -/
import Derived.Test.YtlepgkkpopjgoaaGreatZElDet
import Derived.Test.YtlepgkkpopjgoaaGreatZMatLens
import Derived.Test.YtlepgkkpopjgoaaGreatZVecx
import Derived.Deep.CutBlock
import Derived.Deep.CutRange
import Derived.Deep.RegionHeld3
namespace Go.Proofs.YtlepgkkpopjgoaaGreat
open Go.RowKit Go.WideShapes Go.ChangeShapes
set_option linter.unusedVariables false
set_option linter.unusedSimpArgs false
theorem dtF_len (r c : Int) (L : List Fr) : (dtF r c L).mag.length ≤ 1000 ∧ (dtF r c L).den.length ≤ 1000 := by
  cases h : dtOk r c L with
  | false => rw [(dt_no h).1]; exact ⟨by simp [Fr.zero], by simp [Fr.zero]⟩
  | true =>
    cases h2 : dtFew r c L with
    | true => rw [(dt_few h h2).1]; exact ⟨by simp [zF], by simp [zF]⟩
    | false =>
      rw [(dt_full h h2).1]
      have hb : rdB r c L = true := by unfold dtOk at h; rw [Bool.and_eq_true] at h; exact h.2
      have h' := hb
      unfold rdB at h'
      rw [Bool.and_eq_true] at h'
      obtain ⟨R, C, rfl, rfl, hR, hC, hLn, hRC, hE⟩ := matB_parts h'.1
      have ho := (runE_start_ok hLn (all_okF hE)).2 h'.2
      rcases prod_good (f0 := oF) (F := (rdE R C L).fac) (.inr ok_one) (List.all_eq_true.2 ho.fac) with h9 | h9
      · unfold dtP; rw [h9]; exact ⟨by simp [Fr.zero], by simp [Fr.zero]⟩
      · have := ok_lens h9; unfold dtP; omega
set_option maxRecDepth 100000
set_option maxHeartbeats 4000000 in
theorem law_determinant (W : World) (r0 q0 : Int) (v0 : Value) (zs0 : List Fr) (h0 : RatsAt W v0 zs0) (_ : True) :
    Calls Tryz.prog 7 #[.agg #[.int .i64 r0, .int .i64 q0, v0]] W fun e w' => e = .returned (.bool true) ∧ Below W.heap.size W w' := by
  have R0 := Lib.hid h0
  obtain ⟨a0, c0, rfl, g0, k0⟩ := ratsAt_form h0
  clear h0
  obtain ⟨m0, hm0'⟩ : ∃ n, zs0.length = n := ⟨_, rfl⟩
  rw [hm0'] at R0 g0 ⊢
  have N0 := Lib.hid hm0'
  clear hm0'
  by_cases hs0 : (zs0.length : Int) + szL zs0 ≤ 1048576
  rotate_left
  · go_enter Tryz.func7, Tryz.ntmps7
    go_wp2_with fail
    obtain ⟨W0, hW0⟩ : ∃ x, x = (W.alloc (.cells #[.int .i64 r0, .int .i64 q0, .slice a0 m0 c0] 55)) := ⟨_, rfl⟩
    have B := Lib.hid (show Below W.heap.size W W0 by rw [hW0]; exact ((Below.refl W.heap.size W).alloc (Nat.le_refl _) (.cells #[.int .i64 r0, .int .i64 q0, .slice a0 m0 c0] 55)))
    have D_a0 := Lib.hid (show B3 W0 W.heap.size 55 (.int .i64 r0) (.int .i64 q0) (.slice a0 m0 c0) by rw [hW0]; exact b3_at (B3.new _ _ _ _ _) (by simp))
    have zw := Lib.hid (show W0.heap.size = W.heap.size + 1 by rw [hW0]; simp)
    rw [← hW0]
    clear hW0
    refine (sz_mat_no r0 q0 _ zs0 (1048576) _ (R0.out.below B.out) (by omega) (by omega)).mono ?_
    rintro e w1 ⟨rfl, bw1⟩
    replace D_a0 := Lib.hid (D_a0.out.below bw1)
    replace B := Lib.hid (B.out.trans (bw1.mono B.out.size))
    have z_w1 := Lib.hid bw1.size
    clear bw1
    go_wp2
    go_ret
    exact ⟨rfl, B.out⟩
  have HL0 := Lib.hid (show ∀ f ∈ zs0, f.mag.length ≤ 1099511627776 ∧ f.den.length ≤ 1099511627776 from fun f hf => by have := szL_mem hf; omega)
  have HN0 := Lib.hid (show zs0.length ≤ 1048576 by omega)
  have HC0 := Lib.hid (show cntL zs0 ≤ 1048576 by unfold cntL; omega)
  have hlz := Lib.hid ((dtF_len r0 q0 zs0).1)
  have hld := Lib.hid ((dtF_len r0 q0 zs0).2)
  obtain ⟨ZF, hZF⟩ : ∃ x, x = dtF r0 q0 zs0 := ⟨_, rfl⟩
  have HZF := Lib.hid hZF
  rw [← hZF] at hlz hld
  clear hZF
  go_enter Tryz.func7, Tryz.ntmps7
  go_wp2_with fail
  obtain ⟨W0, hW0⟩ : ∃ x, x = (W.alloc (.cells #[.int .i64 r0, .int .i64 q0, .slice a0 m0 c0] 55)) := ⟨_, rfl⟩
  have B := Lib.hid (show Below W.heap.size W W0 by rw [hW0]; exact ((Below.refl W.heap.size W).alloc (Nat.le_refl _) (.cells #[.int .i64 r0, .int .i64 q0, .slice a0 m0 c0] 55)))
  have D_a0 := Lib.hid (show B3 W0 W.heap.size 55 (.int .i64 r0) (.int .i64 q0) (.slice a0 m0 c0) by rw [hW0]; exact b3_at (B3.new _ _ _ _ _) (by simp))
  have zw := Lib.hid (show W0.heap.size = W.heap.size + 1 by rw [hW0]; simp)
  rw [← hW0]
  clear hW0
  refine (sz_mat_yes r0 q0 _ zs0 (1048576) _ (R0.out.below B.out) (by omega) (by omega)).mono ?_
  rintro e w1 ⟨rfl, bw1⟩
  replace D_a0 := Lib.hid (D_a0.out.below bw1)
  replace B := Lib.hid (B.out.trans (bw1.mono B.out.size))
  have z_w1 := Lib.hid bw1.size
  clear bw1
  have c0_a0 := D_a0.out.c0
  have c1_a0 := D_a0.out.c1
  have c2_a0 := D_a0.out.c2
  go_wp2_with fail
  clear c0_a0 c1_a0 c2_a0
  refine (to_mat r0 q0 _ zs0 _ (R0.out.below B.out) HN0.out HL0.out).mono ?_
  rintro e w2 ⟨v_t1, x_t1, rfl, o_t1, bw2⟩
  obtain ⟨a_t1, c_t1, rfl⟩ := o_t1.slice
  replace D_a0 := Lib.hid (D_a0.out.below bw2)
  replace B := Lib.hid (B.out.trans (bw2.mono B.out.size))
  have z_w2 := Lib.hid bw2.size
  have O_t1 := Lib.hid o_t1
  have L_t1 := Lib.hid o_t1.lt
  clear o_t1
  clear bw2
  go_wp2_with fail
  have hc9 := spec_detM r0 q0 _ zs0 w2 O_t1.out.rats
  rw [← HZF.out] at hc9
  refine (hc9).mono ?_
  rintro e w3 ⟨v_w0, d_w0, rfl, o_w0, bw3⟩
  obtain ⟨a_w0, c_w0, e_w0, f_w0, rfl, rfl⟩ := o_w0.slices
  replace O_t1 := Lib.hid (O_t1.out.below bw3)
  replace D_a0 := Lib.hid (D_a0.out.below bw3)
  replace B := Lib.hid (B.out.trans (bw3.mono B.out.size))
  have z_w3 := Lib.hid bw3.size
  have O_w0 := Lib.hid o_w0
  have L_w0 := Lib.hid o_w0.lt
  clear o_w0
  clear bw3
  clear O_t1 L_t1
  have c0_a0 := D_a0.out.c0
  have c1_a0 := D_a0.out.c1
  have c2_a0 := D_a0.out.c2
  have lt_a0 := D_a0.out.lt
  have hz := B.out.size
  go_wp2_with fail
  clear c0_a0 c1_a0 c2_a0 lt_a0
  clear hz
  obtain ⟨w4, hW0⟩ : ∃ x, x = w3.alloc (.cells #[.bool ZF.neg, .slice a_w0 ZF.mag.length c_w0, .slice e_w0 ZF.den.length f_w0] 34) := ⟨_, rfl⟩
  replace O_w0 := Lib.hid (show OwnR w4 _ _ _ _ _ by rw [hW0]; exact O_w0.out.alloc _)
  replace D_a0 := Lib.hid (show B3 w4 _ _ _ _ _ by rw [hW0]; exact D_a0.out.alloc _)
  have D_w0 := Lib.hid (show B3 w4 w3.heap.size 34 (.bool ZF.neg) (.slice a_w0 ZF.mag.length c_w0) (.slice e_w0 ZF.den.length f_w0) by rw [hW0]; exact B3.new _ _ _ _ _)
  replace B := Lib.hid (show Below W.heap.size W w4 by rw [hW0]; exact B.out.alloc B.out.size _)
  have z_w4 := Lib.hid (show w4.heap.size = w3.heap.size + 1 by rw [hW0]; simp)
  rw [← hW0]
  clear hW0
  refine (to_mat r0 q0 _ zs0 _ (R0.out.below B.out) HN0.out HL0.out).mono ?_
  rintro e w5 ⟨v_x0, x_x0, rfl, o_x0, bw5⟩
  obtain ⟨a_x0, c_x0, rfl⟩ := o_x0.slice
  replace O_w0 := Lib.hid (O_w0.out.below bw5)
  replace D_a0 := Lib.hid (D_a0.out.below bw5)
  replace D_w0 := Lib.hid (D_w0.out.below bw5)
  replace B := Lib.hid (B.out.trans (bw5.mono B.out.size))
  have z_w5 := Lib.hid bw5.size
  have O_x0 := Lib.hid o_x0
  have L_x0 := Lib.hid o_x0.lt
  clear o_x0
  clear bw5
  have hz := B.out.size
  go_wp2_with fail
  clear hz
  obtain ⟨w6, hW0⟩ : ∃ x, x = w5.alloc (.cells #[.int .i64 r0, .int .i64 q0, .slice a_x0 zs0.length c_x0] 25) := ⟨_, rfl⟩
  replace O_w0 := Lib.hid (show OwnR w6 _ _ _ _ _ by rw [hW0]; exact O_w0.out.alloc _)
  replace O_x0 := Lib.hid (show OwnV w6 _ _ _ _ by rw [hW0]; exact O_x0.out.alloc _)
  replace D_a0 := Lib.hid (show B3 w6 _ _ _ _ _ by rw [hW0]; exact D_a0.out.alloc _)
  replace D_w0 := Lib.hid (show B3 w6 _ _ _ _ _ by rw [hW0]; exact D_w0.out.alloc _)
  have D_x0 := Lib.hid (show B3 w6 w5.heap.size 25 (.int .i64 r0) (.int .i64 q0) (.slice a_x0 zs0.length c_x0) by rw [hW0]; exact B3.new _ _ _ _ _)
  replace B := Lib.hid (show Below W.heap.size W w6 by rw [hW0]; exact B.out.alloc B.out.size _)
  have z_w6 := Lib.hid (show w6.heap.size = w5.heap.size + 1 by rw [hW0]; simp)
  rw [← hW0]
  clear hW0
  have hc9 := impl_detM r0 q0 _ zs0 w6 O_x0.out.rats
  rw [← HZF.out] at hc9
  refine (hc9).mono ?_
  rintro e w7 ⟨v_g0, d_g0, rfl, o_g0, bw7⟩
  obtain ⟨a_g0, c_g0, e_g0, f_g0, rfl, rfl⟩ := o_g0.slices
  replace O_w0 := Lib.hid (O_w0.out.below bw7)
  replace O_x0 := Lib.hid (O_x0.out.below bw7)
  replace D_a0 := Lib.hid (D_a0.out.below bw7)
  replace D_w0 := Lib.hid (D_w0.out.below bw7)
  replace D_x0 := Lib.hid (D_x0.out.below bw7)
  replace B := Lib.hid (B.out.trans (bw7.mono B.out.size))
  have z_w7 := Lib.hid bw7.size
  have O_g0 := Lib.hid o_g0
  have L_g0 := Lib.hid o_g0.lt
  clear o_g0
  clear bw7
  have c0_w0 := D_w0.out.c0
  have c1_w0 := D_w0.out.c1
  have c2_w0 := D_w0.out.c2
  have lt_w0 := D_w0.out.lt
  have hz := B.out.size
  go_wp2_with fail
  clear c0_w0 c1_w0 c2_w0 lt_w0
  clear hz
  obtain ⟨w8, hW0⟩ : ∃ x, x = w7.alloc (.cells #[.bool ZF.neg, .slice a_g0 ZF.mag.length c_g0, .slice e_g0 ZF.den.length f_g0] 34) := ⟨_, rfl⟩
  replace O_w0 := Lib.hid (show OwnR w8 _ _ _ _ _ by rw [hW0]; exact O_w0.out.alloc _)
  replace O_x0 := Lib.hid (show OwnV w8 _ _ _ _ by rw [hW0]; exact O_x0.out.alloc _)
  replace O_g0 := Lib.hid (show OwnR w8 _ _ _ _ _ by rw [hW0]; exact O_g0.out.alloc _)
  replace D_a0 := Lib.hid (show B3 w8 _ _ _ _ _ by rw [hW0]; exact D_a0.out.alloc _)
  replace D_w0 := Lib.hid (show B3 w8 _ _ _ _ _ by rw [hW0]; exact D_w0.out.alloc _)
  replace D_x0 := Lib.hid (show B3 w8 _ _ _ _ _ by rw [hW0]; exact D_x0.out.alloc _)
  have D_g0 := Lib.hid (show B3 w8 w7.heap.size 34 (.bool ZF.neg) (.slice a_g0 ZF.mag.length c_g0) (.slice e_g0 ZF.den.length f_g0) by rw [hW0]; exact B3.new _ _ _ _ _)
  replace B := Lib.hid (show Below W.heap.size W w8 by rw [hW0]; exact B.out.alloc B.out.size _)
  have z_w8 := Lib.hid (show w8.heap.size = w7.heap.size + 1 by rw [hW0]; simp)
  rw [← hW0]
  clear hW0
  refine (eq_ratsR _ _ _ _ _ _ _ O_g0.out.row O_w0.out.row).mono ?_
  rintro e w9 ⟨rfl, bw9⟩
  replace O_w0 := Lib.hid (O_w0.out.below bw9)
  replace O_x0 := Lib.hid (O_x0.out.below bw9)
  replace O_g0 := Lib.hid (O_g0.out.below bw9)
  replace D_a0 := Lib.hid (D_a0.out.below bw9)
  replace D_w0 := Lib.hid (D_w0.out.below bw9)
  replace D_x0 := Lib.hid (D_x0.out.below bw9)
  replace D_g0 := Lib.hid (D_g0.out.below bw9)
  replace B := Lib.hid (B.out.trans (bw9.mono B.out.size))
  have z_w9 := Lib.hid bw9.size
  clear bw9
  go_wp2_with fail
  have c0_x0 := D_x0.out.c0
  have c1_x0 := D_x0.out.c1
  have c2_x0 := D_x0.out.c2
  have lt_x0 := D_x0.out.lt
  have c0_a0 := D_a0.out.c0
  have c1_a0 := D_a0.out.c1
  have c2_a0 := D_a0.out.c2
  have lt_a0 := D_a0.out.lt
  go_region_held3 (fun w' => w'.cell? ⟨w5.heap.size, 0, none⟩ = some (.int .i64 r0) ∧ w'.cell? ⟨w5.heap.size, 1, none⟩ = some (.int .i64 q0) ∧ w'.cell? ⟨w5.heap.size, 2, none⟩ = some (.slice a_x0 zs0.length c_x0) ∧ w'.cell? ⟨W.heap.size, 0, none⟩ = some (.int .i64 r0) ∧ w'.cell? ⟨W.heap.size, 1, none⟩ = some (.int .i64 q0) ∧ w'.cell? ⟨W.heap.size, 2, none⟩ = some (.slice a0 m0 c0)) (first | exact ⟨g11_0_x0, g11_1_x0, g11_2_x0, g11_0_a0, g11_1_a0, g11_2_a0⟩ | exact ⟨g10_0_x0, g10_1_x0, g10_2_x0, g10_0_a0, g10_1_a0, g10_2_a0⟩ | exact ⟨c0_x0, c1_x0, c2_x0, c0_a0, c1_a0, c2_a0⟩)
    (first
      | (have := bb10; go_at_call 30; refine (eq_mat _ _ _ _ _ _ (O_x0.out.rats.below bb10) o_t2.rats HN0.out).mono ?_; rintro e w11 ⟨rfl, bw11⟩; have bb11 : Below w9.heap.size w9 w11 := bb10.trans (bw11.mono bb10.size); have g11_0_x0 := (bb11.cell (p := ⟨w5.heap.size, 0, none⟩) lt_x0).trans c0_x0; have g11_1_x0 := (bb11.cell (p := ⟨w5.heap.size, 1, none⟩) lt_x0).trans c1_x0; have g11_2_x0 := (bb11.cell (p := ⟨w5.heap.size, 2, none⟩) lt_x0).trans c2_x0; have g11_0_a0 := (bb11.cell (p := ⟨W.heap.size, 0, none⟩) lt_a0).trans c0_a0; have g11_1_a0 := (bb11.cell (p := ⟨W.heap.size, 1, none⟩) lt_a0).trans c1_a0; have g11_2_a0 := (bb11.cell (p := ⟨W.heap.size, 2, none⟩) lt_a0).trans c2_a0)
      | (go_at_call 29; refine (to_mat r0 q0 _ zs0 _ (R0.out.below (B.out.trans (Below.mono (by first | exact Below.refl _ _ | exact (Below.refl _ _).drew) B.out.size))) HN0.out HL0.out).mono ?_; rintro e w10 ⟨v_t2, x_t2, rfl, o_t2, bw10⟩; obtain ⟨a_t2, c_t2, rfl⟩ := o_t2.slice; have bb10 : Below w9.heap.size w9 w10 := (by first | exact bw10 | exact ((Below.refl _ _).drew).trans bw10); have g10_0_x0 := (bb10.cell (p := ⟨w5.heap.size, 0, none⟩) lt_x0).trans c0_x0; have g10_1_x0 := (bb10.cell (p := ⟨w5.heap.size, 1, none⟩) lt_x0).trans c1_x0; have g10_2_x0 := (bb10.cell (p := ⟨w5.heap.size, 2, none⟩) lt_x0).trans c2_x0; have g10_0_a0 := (bb10.cell (p := ⟨W.heap.size, 0, none⟩) lt_a0).trans c0_a0; have g10_1_a0 := (bb10.cell (p := ⟨W.heap.size, 1, none⟩) lt_a0).trans c1_a0; have g10_2_a0 := (bb10.cell (p := ⟨W.heap.size, 2, none⟩) lt_a0).trans c2_a0))
  clear bw10
  have bw10 := bb10
  replace o_t2 : OwnV w10 w9.heap.size _ _ _ := o_t2
  replace O_w0 := Lib.hid (O_w0.out.below bw10)
  replace O_x0 := Lib.hid (O_x0.out.below bw10)
  replace O_g0 := Lib.hid (O_g0.out.below bw10)
  replace D_a0 := Lib.hid (D_a0.out.below bw10)
  replace D_w0 := Lib.hid (D_w0.out.below bw10)
  replace D_x0 := Lib.hid (D_x0.out.below bw10)
  replace D_g0 := Lib.hid (D_g0.out.below bw10)
  replace B := Lib.hid (B.out.trans (bw10.mono B.out.size))
  have z_w10 := Lib.hid bw10.size
  have O_t2 := Lib.hid o_t2
  have L_t2 := Lib.hid o_t2.lt
  clear o_t2
  clear bw10
  clear g10_0_x0 g10_1_x0 g10_2_x0
  clear g10_0_a0 g10_1_a0 g10_2_a0
  replace O_w0 := Lib.hid (O_w0.out.below bw11)
  replace O_x0 := Lib.hid (O_x0.out.below bw11)
  replace O_g0 := Lib.hid (O_g0.out.below bw11)
  replace O_t2 := Lib.hid (O_t2.out.below bw11)
  replace D_a0 := Lib.hid (D_a0.out.below bw11)
  replace D_w0 := Lib.hid (D_w0.out.below bw11)
  replace D_x0 := Lib.hid (D_x0.out.below bw11)
  replace D_g0 := Lib.hid (D_g0.out.below bw11)
  replace B := Lib.hid (B.out.trans (bw11.mono B.out.size))
  have z_w11 := Lib.hid bw11.size
  clear bw11
  clear g11_0_x0 g11_1_x0 g11_2_x0
  clear g11_0_a0 g11_1_a0 g11_2_a0
  clear bb10 bb11
  clear c0_x0 c1_x0 c2_x0 lt_x0
  clear c0_a0 c1_a0 c2_a0 lt_a0
  clear O_t2 L_t2
  have c0_x0 := D_x0.out.c0
  have c1_x0 := D_x0.out.c1
  have c2_x0 := D_x0.out.c2
  go_wp2_with fail
  clear c0_x0 c1_x0 c2_x0
  refine (mark_mat _ _ _ (1) _ (zs0) _ _ _ (by simp) O_x0.out (by skip; have := HC0.out; skip; omega) (by have := HN0.out; omega)).mono ?_
  rintro e w12 ⟨rfl, om, bk⟩
  replace O_w0 := Lib.hid (O_w0.out.kept bk (fun k hk hs => by have := L_w0.out k hk; have := L_x0.out k hs; have := zw.out; have := z_w1.out; have := z_w2.out; have := z_w3.out; have := z_w4.out; have := z_w5.out; have := z_w6.out; have := z_w7.out; have := z_w8.out; have := z_w9.out; have := z_w10.out; have := z_w11.out; omega))
  replace O_g0 := Lib.hid (O_g0.out.kept bk (fun k hk hs => by have := L_g0.out k hk; have := L_x0.out k hs; have := zw.out; have := z_w1.out; have := z_w2.out; have := z_w3.out; have := z_w4.out; have := z_w5.out; have := z_w6.out; have := z_w7.out; have := z_w8.out; have := z_w9.out; have := z_w10.out; have := z_w11.out; omega))
  replace D_a0 := Lib.hid (B3.keptK D_a0.out bk (fun hs => by have := L_x0.out _ hs; have := zw.out; have := z_w1.out; have := z_w2.out; have := z_w3.out; have := z_w4.out; have := z_w5.out; have := z_w6.out; have := z_w7.out; have := z_w8.out; have := z_w9.out; have := z_w10.out; have := z_w11.out; omega))
  replace D_w0 := Lib.hid (B3.keptK D_w0.out bk (fun hs => by have := L_x0.out _ hs; have := zw.out; have := z_w1.out; have := z_w2.out; have := z_w3.out; have := z_w4.out; have := z_w5.out; have := z_w6.out; have := z_w7.out; have := z_w8.out; have := z_w9.out; have := z_w10.out; have := z_w11.out; omega))
  replace D_x0 := Lib.hid (B3.keptK D_x0.out bk (fun hs => by have := L_x0.out _ hs; have := zw.out; have := z_w1.out; have := z_w2.out; have := z_w3.out; have := z_w4.out; have := z_w5.out; have := z_w6.out; have := z_w7.out; have := z_w8.out; have := z_w9.out; have := z_w10.out; have := z_w11.out; omega))
  replace D_g0 := Lib.hid (B3.keptK D_g0.out bk (fun hs => by have := L_x0.out _ hs; have := zw.out; have := z_w1.out; have := z_w2.out; have := z_w3.out; have := z_w4.out; have := z_w5.out; have := z_w6.out; have := z_w7.out; have := z_w8.out; have := z_w9.out; have := z_w10.out; have := z_w11.out; omega))
  replace B := Lib.hid (below_kept B.out bk B.out.size (fun k hk => by have := L_x0.out k hk; have := zw.out; have := z_w1.out; have := z_w2.out; have := z_w3.out; have := z_w4.out; have := z_w5.out; have := z_w6.out; have := z_w7.out; have := z_w8.out; have := z_w9.out; have := z_w10.out; have := z_w11.out; have := B.out.size; omega))
  have z_w12 := Lib.hid bk.size
  replace O_x0 := Lib.hid om
  clear om bk
  clear O_x0 L_x0
  have c0_g0 := D_g0.out.c0
  have c1_g0 := D_g0.out.c1
  have c2_g0 := D_g0.out.c2
  have c0_w0 := D_w0.out.c0
  have c1_w0 := D_w0.out.c1
  have c2_w0 := D_w0.out.c2
  go_wp2_with fail
  clear c0_g0 c1_g0 c2_g0
  clear c0_w0 c1_w0 c2_w0
  refine (eq_ratsR _ _ _ _ _ _ _ O_g0.out.row O_w0.out.row).mono ?_
  rintro e w13 ⟨rfl, bw13⟩
  replace O_w0 := Lib.hid (O_w0.out.below bw13)
  replace O_g0 := Lib.hid (O_g0.out.below bw13)
  replace D_a0 := Lib.hid (D_a0.out.below bw13)
  replace D_w0 := Lib.hid (D_w0.out.below bw13)
  replace D_x0 := Lib.hid (D_x0.out.below bw13)
  replace D_g0 := Lib.hid (D_g0.out.below bw13)
  replace B := Lib.hid (B.out.trans (bw13.mono B.out.size))
  have z_w13 := Lib.hid bw13.size
  clear bw13
  have c0_g0 := D_g0.out.c0
  have c1_g0 := D_g0.out.c1
  have c2_g0 := D_g0.out.c2
  go_wp2_with fail
  clear c0_g0 c1_g0 c2_g0
  refine (mark_rats _ _ (1) _ _ _ _ _ (by simp) O_g0.out (by have := hlz.out; have := hld.out; omega)).mono ?_
  rintro e w14 ⟨rfl, om, gw⟩
  have bk := kept_grown2 gw
  clear gw
  replace O_w0 := Lib.hid (O_w0.out.kept bk (fun k hk hs => by have := L_w0.out k hk; have := L_g0.out k hs; have := zw.out; have := z_w1.out; have := z_w2.out; have := z_w3.out; have := z_w4.out; have := z_w5.out; have := z_w6.out; have := z_w7.out; have := z_w8.out; have := z_w9.out; have := z_w10.out; have := z_w11.out; have := z_w12.out; have := z_w13.out; omega))
  replace D_a0 := Lib.hid (B3.keptK D_a0.out bk (fun hs => by have := L_g0.out _ hs; have := zw.out; have := z_w1.out; have := z_w2.out; have := z_w3.out; have := z_w4.out; have := z_w5.out; have := z_w6.out; have := z_w7.out; have := z_w8.out; have := z_w9.out; have := z_w10.out; have := z_w11.out; have := z_w12.out; have := z_w13.out; omega))
  replace D_w0 := Lib.hid (B3.keptK D_w0.out bk (fun hs => by have := L_g0.out _ hs; have := zw.out; have := z_w1.out; have := z_w2.out; have := z_w3.out; have := z_w4.out; have := z_w5.out; have := z_w6.out; have := z_w7.out; have := z_w8.out; have := z_w9.out; have := z_w10.out; have := z_w11.out; have := z_w12.out; have := z_w13.out; omega))
  replace D_x0 := Lib.hid (B3.keptK D_x0.out bk (fun hs => by have := L_g0.out _ hs; have := zw.out; have := z_w1.out; have := z_w2.out; have := z_w3.out; have := z_w4.out; have := z_w5.out; have := z_w6.out; have := z_w7.out; have := z_w8.out; have := z_w9.out; have := z_w10.out; have := z_w11.out; have := z_w12.out; have := z_w13.out; omega))
  replace D_g0 := Lib.hid (B3.keptK D_g0.out bk (fun hs => by have := L_g0.out _ hs; have := zw.out; have := z_w1.out; have := z_w2.out; have := z_w3.out; have := z_w4.out; have := z_w5.out; have := z_w6.out; have := z_w7.out; have := z_w8.out; have := z_w9.out; have := z_w10.out; have := z_w11.out; have := z_w12.out; have := z_w13.out; omega))
  replace B := Lib.hid (below_kept B.out bk B.out.size (fun k hk => by have := L_g0.out k hk; have := zw.out; have := z_w1.out; have := z_w2.out; have := z_w3.out; have := z_w4.out; have := z_w5.out; have := z_w6.out; have := z_w7.out; have := z_w8.out; have := z_w9.out; have := z_w10.out; have := z_w11.out; have := z_w12.out; have := z_w13.out; have := B.out.size; omega))
  have z_w14 := Lib.hid bk.size
  replace O_g0 := Lib.hid om
  clear om bk
  have c0_g0 := D_g0.out.c0
  have c1_g0 := D_g0.out.c1
  have c2_g0 := D_g0.out.c2
  go_wp2_with fail
  clear c0_g0 c1_g0 c2_g0
  refine (held_ratsR _ _ ZF.mag.length ZF.den.length 1 _ _ (by simp) O_g0.out.row (by have := hlz.out; have := hld.out; omega)).mono ?_
  rintro e w15 ⟨rfl, bw15⟩
  replace O_w0 := Lib.hid (O_w0.out.below bw15)
  replace O_g0 := Lib.hid (O_g0.out.below bw15)
  replace D_a0 := Lib.hid (D_a0.out.below bw15)
  replace D_w0 := Lib.hid (D_w0.out.below bw15)
  replace D_x0 := Lib.hid (D_x0.out.below bw15)
  replace D_g0 := Lib.hid (D_g0.out.below bw15)
  replace B := Lib.hid (B.out.trans (bw15.mono B.out.size))
  have z_w15 := Lib.hid bw15.size
  clear bw15
  have c0_a0 := D_a0.out.c0
  have c1_a0 := D_a0.out.c1
  have c2_a0 := D_a0.out.c2
  go_wp2_with fail
  clear c0_a0 c1_a0 c2_a0
  refine (to_mat r0 q0 _ zs0 _ (R0.out.below B.out) HN0.out HL0.out).mono ?_
  rintro e w16 ⟨v_t3, x_t3, rfl, o_t3, bw16⟩
  obtain ⟨a_t3, c_t3, rfl⟩ := o_t3.slice
  replace O_w0 := Lib.hid (O_w0.out.below bw16)
  replace O_g0 := Lib.hid (O_g0.out.below bw16)
  replace D_a0 := Lib.hid (D_a0.out.below bw16)
  replace D_w0 := Lib.hid (D_w0.out.below bw16)
  replace D_x0 := Lib.hid (D_x0.out.below bw16)
  replace D_g0 := Lib.hid (D_g0.out.below bw16)
  replace B := Lib.hid (B.out.trans (bw16.mono B.out.size))
  have z_w16 := Lib.hid bw16.size
  have O_t3 := Lib.hid o_t3
  have L_t3 := Lib.hid o_t3.lt
  clear o_t3
  clear bw16
  go_wp2_with fail
  have hc9 := impl_detM r0 q0 _ zs0 w16 O_t3.out.rats
  rw [← HZF.out] at hc9
  refine (hc9).mono ?_
  rintro e w17 ⟨v_h0, d_h0, rfl, o_h0, bw17⟩
  obtain ⟨a_h0, c_h0, e_h0, f_h0, rfl, rfl⟩ := o_h0.slices
  replace O_w0 := Lib.hid (O_w0.out.below bw17)
  replace O_g0 := Lib.hid (O_g0.out.below bw17)
  replace O_t3 := Lib.hid (O_t3.out.below bw17)
  replace D_a0 := Lib.hid (D_a0.out.below bw17)
  replace D_w0 := Lib.hid (D_w0.out.below bw17)
  replace D_x0 := Lib.hid (D_x0.out.below bw17)
  replace D_g0 := Lib.hid (D_g0.out.below bw17)
  replace B := Lib.hid (B.out.trans (bw17.mono B.out.size))
  have z_w17 := Lib.hid bw17.size
  have O_h0 := Lib.hid o_h0
  have L_h0 := Lib.hid o_h0.lt
  clear o_h0
  clear bw17
  clear O_t3 L_t3
  have c0_w0 := D_w0.out.c0
  have c1_w0 := D_w0.out.c1
  have c2_w0 := D_w0.out.c2
  have lt_w0 := D_w0.out.lt
  have hz := B.out.size
  go_wp2_with fail
  clear c0_w0 c1_w0 c2_w0 lt_w0
  clear hz
  obtain ⟨w18, hW0⟩ : ∃ x, x = w17.alloc (.cells #[.bool ZF.neg, .slice a_h0 ZF.mag.length c_h0, .slice e_h0 ZF.den.length f_h0] 34) := ⟨_, rfl⟩
  replace O_w0 := Lib.hid (show OwnR w18 _ _ _ _ _ by rw [hW0]; exact O_w0.out.alloc _)
  replace O_g0 := Lib.hid (show OwnR w18 _ _ _ _ _ by rw [hW0]; exact O_g0.out.alloc _)
  replace O_h0 := Lib.hid (show OwnR w18 _ _ _ _ _ by rw [hW0]; exact O_h0.out.alloc _)
  replace D_a0 := Lib.hid (show B3 w18 _ _ _ _ _ by rw [hW0]; exact D_a0.out.alloc _)
  replace D_w0 := Lib.hid (show B3 w18 _ _ _ _ _ by rw [hW0]; exact D_w0.out.alloc _)
  replace D_x0 := Lib.hid (show B3 w18 _ _ _ _ _ by rw [hW0]; exact D_x0.out.alloc _)
  replace D_g0 := Lib.hid (show B3 w18 _ _ _ _ _ by rw [hW0]; exact D_g0.out.alloc _)
  have D_h0 := Lib.hid (show B3 w18 w17.heap.size 34 (.bool ZF.neg) (.slice a_h0 ZF.mag.length c_h0) (.slice e_h0 ZF.den.length f_h0) by rw [hW0]; exact B3.new _ _ _ _ _)
  replace B := Lib.hid (show Below W.heap.size W w18 by rw [hW0]; exact B.out.alloc B.out.size _)
  have z_w18 := Lib.hid (show w18.heap.size = w17.heap.size + 1 by rw [hW0]; simp)
  rw [← hW0]
  clear hW0
  refine (eq_ratsR _ _ _ _ _ _ _ O_h0.out.row O_w0.out.row).mono ?_
  rintro e w19 ⟨rfl, bw19⟩
  replace O_w0 := Lib.hid (O_w0.out.below bw19)
  replace O_g0 := Lib.hid (O_g0.out.below bw19)
  replace O_h0 := Lib.hid (O_h0.out.below bw19)
  replace D_a0 := Lib.hid (D_a0.out.below bw19)
  replace D_w0 := Lib.hid (D_w0.out.below bw19)
  replace D_x0 := Lib.hid (D_x0.out.below bw19)
  replace D_g0 := Lib.hid (D_g0.out.below bw19)
  replace D_h0 := Lib.hid (D_h0.out.below bw19)
  replace B := Lib.hid (B.out.trans (bw19.mono B.out.size))
  have z_w19 := Lib.hid bw19.size
  clear bw19
  have c0_g0 := D_g0.out.c0
  have c1_g0 := D_g0.out.c1
  have c2_g0 := D_g0.out.c2
  go_wp2_with fail
  clear c0_g0 c1_g0 c2_g0
  refine (held_ratsR _ _ ZF.mag.length ZF.den.length 1 _ _ (by simp) O_g0.out.row (by have := hlz.out; have := hld.out; omega)).mono ?_
  rintro e w20 ⟨rfl, bw20⟩
  replace O_w0 := Lib.hid (O_w0.out.below bw20)
  replace O_g0 := Lib.hid (O_g0.out.below bw20)
  replace O_h0 := Lib.hid (O_h0.out.below bw20)
  replace D_a0 := Lib.hid (D_a0.out.below bw20)
  replace D_w0 := Lib.hid (D_w0.out.below bw20)
  replace D_x0 := Lib.hid (D_x0.out.below bw20)
  replace D_g0 := Lib.hid (D_g0.out.below bw20)
  replace D_h0 := Lib.hid (D_h0.out.below bw20)
  replace B := Lib.hid (B.out.trans (bw20.mono B.out.size))
  have z_w20 := Lib.hid bw20.size
  clear bw20
  go_wp2
  go_ret
  exact ⟨rfl, B.out⟩

end Go.Proofs.YtlepgkkpopjgoaaGreat
