/- The exact law of Reduce. -/
import Derived.Test.YtlepgkkpopjgoaaGreatZElRun
import Derived.Test.YtlepgkkpopjgoaaGreatZMatLens
import Derived.Test.YtlepgkkpopjgoaaGreatZVecx
import Derived.Deep.CutBlock
import Derived.Deep.CutRange
import Derived.Deep.RegionHeld3
namespace Go.Proofs.YtlepgkkpopjgoaaGreat
open Go.RowKit Go.WideShapes Go.ChangeShapes
set_option linter.unusedVariables false
set_option linter.unusedSimpArgs false
theorem rd_ok {r c : Int} {L : List Fr} (h : rdB r c L = true) : ∃ R C : Nat, r = R ∧ c = C ∧ R ≤ 24 ∧ C ≤ 24 ∧ L.length = R * C ∧ ElOk R C (rdE R C L) C := by
  have h' := h
  unfold rdB at h'
  rw [Bool.and_eq_true] at h'
  obtain ⟨R, C, rfl, rfl, hR, hC, hLn, hRC, hE⟩ := matB_parts h'.1
  exact ⟨R, C, rfl, rfl, hR, hC, hLn, (runE_start_ok hLn (all_okF hE)).2 h'.2⟩
theorem rdL_len (r c : Int) (L : List Fr) : cntL (rdL r c L) ≤ 100000 := by
  cases h : rdB r c L with
  | false => rw [(rd_no h).1]; exact cnt_nil
  | true =>
    obtain ⟨R, C, rfl, rfl, hR, hC, hLn, ho⟩ := rd_ok h
    rw [(rd_yes h).1, Int.toNat_natCast, Int.toNat_natCast]
    refine cntM_le (by rw [tabM_len]; exact Nat.mul_le_mul hR hC) (fun f hf => ?_)
    unfold tabM at hf
    rw [List.mem_map] at hf
    obtain ⟨p, hp, rfl⟩ := hf
    rw [List.mem_range] at hp
    have hC0 : 0 < C := by rcases Nat.eq_zero_or_pos C with h0 | h0
                           · rw [h0, Nat.mul_zero] at hp; omega
                           · exact h0
    exact ok_lens (ho.ok _ _ (by rw [Nat.div_lt_iff_lt_mul hC0]; exact hp) (Nat.mod_lt _ hC0))
theorem rdP_len (r c : Int) (L : List Fr) : (rdP r c L).length ≤ 1000 := by
  cases h : rdB r c L with
  | false => rw [(rd_no h).2.2.2]; simp
  | true =>
    obtain ⟨R, C, rfl, rfl, hR, hC, hLn, ho⟩ := rd_ok h
    rw [(rd_yes h).2.2.2, natV_len]
    have := ho.len
    omega
set_option maxRecDepth 100000
set_option maxHeartbeats 4000000 in
theorem law_reduce (W : World) (r0 q0 : Int) (v0 : Value) (zs0 : List Fr) (h0 : RatsAt W v0 zs0) (_ : True) :
    Calls Tryz.prog 5 #[.agg #[.int .i64 r0, .int .i64 q0, v0]] W fun e w' => e = .returned (.bool true) ∧ Below W.heap.size W w' := by
  have R0 := Lib.hid h0
  obtain ⟨a0, c0, rfl, g0, k0⟩ := ratsAt_form h0
  clear h0
  obtain ⟨m0, hm0'⟩ : ∃ n, zs0.length = n := ⟨_, rfl⟩
  rw [hm0'] at R0 g0 ⊢
  have N0 := Lib.hid hm0'
  clear hm0'
  by_cases hs0 : (zs0.length : Int) + szL zs0 ≤ 1048576
  rotate_left
  · go_enter Tryz.func5, Tryz.ntmps5
    go_wp2_with fail
    obtain ⟨W0, hW0⟩ : ∃ x, x = (W.alloc (.cells #[.int .i64 r0, .int .i64 q0, .slice a0 m0 c0] 55)) := ⟨_, rfl⟩
    have B := Lib.hid (show Below W.heap.size W W0 by rw [hW0]; exact ((Below.refl W.heap.size W).alloc (Nat.le_refl _) (.cells #[.int .i64 r0, .int .i64 q0, .slice a0 m0 c0] 55)))
    have D_a0 := Lib.hid (show B3 W0 W.heap.size 55 (.int .i64 r0) (.int .i64 q0) (.slice a0 m0 c0) by rw [hW0]; exact b3_at (B3.new _ _ _ _ _) (by simp))
    have zw := Lib.hid (show W0.heap.size = W.heap.size + 1 by rw [hW0]; simp)
    rw [← hW0]
    clear hW0
    refine (sz_mat_no r0 q0 _ zs0 (1048576) _ (R0.out.below B.out) (by omega) (by omega)).mono ?_
    rintro e w1 ⟨rfl, bw1⟩
    replace D_a0 := Lib.hid (D_a0.out.below bw1)
    replace B := Lib.hid (B.out.trans (bw1.mono B.out.size))
    have z_w1 := Lib.hid bw1.size
    clear bw1
    go_wp2
    go_ret
    exact ⟨rfl, B.out⟩
  have HL0 := Lib.hid (show ∀ f ∈ zs0, f.mag.length ≤ 1099511627776 ∧ f.den.length ≤ 1099511627776 from fun f hf => by have := szL_mem hf; omega)
  have HN0 := Lib.hid (show zs0.length ≤ 1048576 by omega)
  have HC0 := Lib.hid (show cntL zs0 ≤ 1048576 by unfold cntL; omega)
  have hLEN := rdL_len r0 q0 zs0
  obtain ⟨ZL, hZL⟩ : ∃ x, x = rdL r0 q0 zs0 := ⟨_, rfl⟩
  have HZL := Lib.hid hZL
  rw [← hZL] at hLEN
  have HA := Lib.hid (show cntL ZL ≤ 100000 from hLEN)
  have HAN := Lib.hid (show ZL.length ≤ 1048576 by have := HA.out; unfold cntL at this; omega)
  clear hLEN hZL
  obtain ⟨ZR, hZR⟩ : ∃ x, x = rdR r0 q0 zs0 := ⟨_, rfl⟩
  have HZR := Lib.hid hZR
  obtain ⟨ZC, hZC⟩ : ∃ x, x = rdC r0 q0 zs0 := ⟨_, rfl⟩
  have HZC := Lib.hid hZC
  clear hZR hZC
  have HP9 := Lib.hid (show (rdP r0 q0 zs0).length ≤ 1000 from rdP_len r0 q0 zs0)
  obtain ⟨ZP, hZP⟩ : ∃ x, x = rdP r0 q0 zs0 := ⟨_, rfl⟩
  have HZP := Lib.hid hZP
  rw [← hZP] at HP9
  clear hZP
  go_enter Tryz.func5, Tryz.ntmps5
  go_wp2_with fail
  obtain ⟨W0, hW0⟩ : ∃ x, x = (W.alloc (.cells #[.int .i64 r0, .int .i64 q0, .slice a0 m0 c0] 55)) := ⟨_, rfl⟩
  have B := Lib.hid (show Below W.heap.size W W0 by rw [hW0]; exact ((Below.refl W.heap.size W).alloc (Nat.le_refl _) (.cells #[.int .i64 r0, .int .i64 q0, .slice a0 m0 c0] 55)))
  have D_a0 := Lib.hid (show B3 W0 W.heap.size 55 (.int .i64 r0) (.int .i64 q0) (.slice a0 m0 c0) by rw [hW0]; exact b3_at (B3.new _ _ _ _ _) (by simp))
  have zw := Lib.hid (show W0.heap.size = W.heap.size + 1 by rw [hW0]; simp)
  rw [← hW0]
  clear hW0
  refine (sz_mat_yes r0 q0 _ zs0 (1048576) _ (R0.out.below B.out) (by omega) (by omega)).mono ?_
  rintro e w1 ⟨rfl, bw1⟩
  replace D_a0 := Lib.hid (D_a0.out.below bw1)
  replace B := Lib.hid (B.out.trans (bw1.mono B.out.size))
  have z_w1 := Lib.hid bw1.size
  clear bw1
  have c0_a0 := D_a0.out.c0
  have c1_a0 := D_a0.out.c1
  have c2_a0 := D_a0.out.c2
  go_wp2_with fail
  clear c0_a0 c1_a0 c2_a0
  refine (to_mat r0 q0 _ zs0 _ (R0.out.below B.out) HN0.out HL0.out).mono ?_
  rintro e w2 ⟨v_t1, x_t1, rfl, o_t1, bw2⟩
  obtain ⟨a_t1, c_t1, rfl⟩ := o_t1.slice
  replace D_a0 := Lib.hid (D_a0.out.below bw2)
  replace B := Lib.hid (B.out.trans (bw2.mono B.out.size))
  have z_w2 := Lib.hid bw2.size
  have O_t1 := Lib.hid o_t1
  have L_t1 := Lib.hid o_t1.lt
  clear o_t1
  clear bw2
  go_wp2_with fail
  have hc9 := spec_reduceM r0 q0 _ zs0 w2 O_t1.out.rats
  rw [← HZL.out, ← HZR.out, ← HZC.out, ← HZP.out] at hc9
  refine (hc9).mono ?_
  rintro e w3 ⟨v_w0, x_w0, v_pw0, rfl, o_w0, o_pw0, dj_w0, bw3⟩
  obtain ⟨a_w0, c_w0, rfl⟩ := o_w0.slice
  obtain ⟨a_pw0, c_pw0, rfl⟩ := o_pw0.slice
  replace O_t1 := Lib.hid (O_t1.out.below bw3)
  replace D_a0 := Lib.hid (D_a0.out.below bw3)
  replace B := Lib.hid (B.out.trans (bw3.mono B.out.size))
  have z_w3 := Lib.hid bw3.size
  have O_w0 := Lib.hid o_w0
  have L_w0 := Lib.hid o_w0.lt
  clear o_w0
  have O_pw0 := Lib.hid o_pw0
  have L_pw0 := Lib.hid o_pw0.lt
  clear o_pw0
  clear bw3
  have DJ_w0 := Lib.hid dj_w0
  clear dj_w0
  clear O_t1 L_t1
  have c0_a0 := D_a0.out.c0
  have c1_a0 := D_a0.out.c1
  have c2_a0 := D_a0.out.c2
  have lt_a0 := D_a0.out.lt
  have hz := B.out.size
  go_wp2_with fail
  clear c0_a0 c1_a0 c2_a0 lt_a0
  clear hz
  obtain ⟨w4, hW0⟩ : ∃ x, x = w3.alloc (.cells #[.int .i64 ZR, .int .i64 ZC, .slice a_w0 ZL.length c_w0] 25) := ⟨_, rfl⟩
  replace O_w0 := Lib.hid (show OwnV w4 _ _ _ _ by rw [hW0]; exact O_w0.out.alloc _)
  replace O_pw0 := Lib.hid (show OwnI w4 _ _ _ by rw [hW0]; exact O_pw0.out.alloc _)
  replace D_a0 := Lib.hid (show B3 w4 _ _ _ _ _ by rw [hW0]; exact D_a0.out.alloc _)
  have D_w0 := Lib.hid (show B3 w4 w3.heap.size 25 (.int .i64 ZR) (.int .i64 ZC) (.slice a_w0 ZL.length c_w0) by rw [hW0]; exact B3.new _ _ _ _ _)
  replace B := Lib.hid (show Below W.heap.size W w4 by rw [hW0]; exact B.out.alloc B.out.size _)
  have z_w4 := Lib.hid (show w4.heap.size = w3.heap.size + 1 by rw [hW0]; simp)
  rw [← hW0]
  clear hW0
  refine (to_mat r0 q0 _ zs0 _ (R0.out.below B.out) HN0.out HL0.out).mono ?_
  rintro e w5 ⟨v_x0, x_x0, rfl, o_x0, bw5⟩
  obtain ⟨a_x0, c_x0, rfl⟩ := o_x0.slice
  replace O_w0 := Lib.hid (O_w0.out.below bw5)
  replace O_pw0 := Lib.hid (O_pw0.out.below bw5)
  replace D_a0 := Lib.hid (D_a0.out.below bw5)
  replace D_w0 := Lib.hid (D_w0.out.below bw5)
  replace B := Lib.hid (B.out.trans (bw5.mono B.out.size))
  have z_w5 := Lib.hid bw5.size
  have O_x0 := Lib.hid o_x0
  have L_x0 := Lib.hid o_x0.lt
  clear o_x0
  clear bw5
  have hz := B.out.size
  go_wp2_with fail
  clear hz
  obtain ⟨w6, hW0⟩ : ∃ x, x = w5.alloc (.cells #[.int .i64 r0, .int .i64 q0, .slice a_x0 zs0.length c_x0] 25) := ⟨_, rfl⟩
  replace O_w0 := Lib.hid (show OwnV w6 _ _ _ _ by rw [hW0]; exact O_w0.out.alloc _)
  replace O_pw0 := Lib.hid (show OwnI w6 _ _ _ by rw [hW0]; exact O_pw0.out.alloc _)
  replace O_x0 := Lib.hid (show OwnV w6 _ _ _ _ by rw [hW0]; exact O_x0.out.alloc _)
  replace D_a0 := Lib.hid (show B3 w6 _ _ _ _ _ by rw [hW0]; exact D_a0.out.alloc _)
  replace D_w0 := Lib.hid (show B3 w6 _ _ _ _ _ by rw [hW0]; exact D_w0.out.alloc _)
  have D_x0 := Lib.hid (show B3 w6 w5.heap.size 25 (.int .i64 r0) (.int .i64 q0) (.slice a_x0 zs0.length c_x0) by rw [hW0]; exact B3.new _ _ _ _ _)
  replace B := Lib.hid (show Below W.heap.size W w6 by rw [hW0]; exact B.out.alloc B.out.size _)
  have z_w6 := Lib.hid (show w6.heap.size = w5.heap.size + 1 by rw [hW0]; simp)
  rw [← hW0]
  clear hW0
  have hc9 := impl_reduceM r0 q0 _ zs0 w6 O_x0.out.rats
  rw [← HZL.out, ← HZR.out, ← HZC.out, ← HZP.out] at hc9
  refine (hc9).mono ?_
  rintro e w7 ⟨v_g0, x_g0, v_pg0, rfl, o_g0, o_pg0, dj_g0, bw7⟩
  obtain ⟨a_g0, c_g0, rfl⟩ := o_g0.slice
  obtain ⟨a_pg0, c_pg0, rfl⟩ := o_pg0.slice
  replace O_w0 := Lib.hid (O_w0.out.below bw7)
  replace O_pw0 := Lib.hid (O_pw0.out.below bw7)
  replace O_x0 := Lib.hid (O_x0.out.below bw7)
  replace D_a0 := Lib.hid (D_a0.out.below bw7)
  replace D_w0 := Lib.hid (D_w0.out.below bw7)
  replace D_x0 := Lib.hid (D_x0.out.below bw7)
  replace B := Lib.hid (B.out.trans (bw7.mono B.out.size))
  have z_w7 := Lib.hid bw7.size
  have O_g0 := Lib.hid o_g0
  have L_g0 := Lib.hid o_g0.lt
  clear o_g0
  have O_pg0 := Lib.hid o_pg0
  have L_pg0 := Lib.hid o_pg0.lt
  clear o_pg0
  clear bw7
  have DJ_g0 := Lib.hid dj_g0
  clear dj_g0
  have c0_w0 := D_w0.out.c0
  have c1_w0 := D_w0.out.c1
  have c2_w0 := D_w0.out.c2
  have lt_w0 := D_w0.out.lt
  have hz := B.out.size
  go_wp2_with fail
  clear c0_w0 c1_w0 c2_w0 lt_w0
  clear hz
  obtain ⟨w8, hW0⟩ : ∃ x, x = w7.alloc (.cells #[.int .i64 ZR, .int .i64 ZC, .slice a_g0 ZL.length c_g0] 25) := ⟨_, rfl⟩
  replace O_w0 := Lib.hid (show OwnV w8 _ _ _ _ by rw [hW0]; exact O_w0.out.alloc _)
  replace O_pw0 := Lib.hid (show OwnI w8 _ _ _ by rw [hW0]; exact O_pw0.out.alloc _)
  replace O_x0 := Lib.hid (show OwnV w8 _ _ _ _ by rw [hW0]; exact O_x0.out.alloc _)
  replace O_g0 := Lib.hid (show OwnV w8 _ _ _ _ by rw [hW0]; exact O_g0.out.alloc _)
  replace O_pg0 := Lib.hid (show OwnI w8 _ _ _ by rw [hW0]; exact O_pg0.out.alloc _)
  replace D_a0 := Lib.hid (show B3 w8 _ _ _ _ _ by rw [hW0]; exact D_a0.out.alloc _)
  replace D_w0 := Lib.hid (show B3 w8 _ _ _ _ _ by rw [hW0]; exact D_w0.out.alloc _)
  replace D_x0 := Lib.hid (show B3 w8 _ _ _ _ _ by rw [hW0]; exact D_x0.out.alloc _)
  have D_g0 := Lib.hid (show B3 w8 w7.heap.size 25 (.int .i64 ZR) (.int .i64 ZC) (.slice a_g0 ZL.length c_g0) by rw [hW0]; exact B3.new _ _ _ _ _)
  replace B := Lib.hid (show Below W.heap.size W w8 by rw [hW0]; exact B.out.alloc B.out.size _)
  have z_w8 := Lib.hid (show w8.heap.size = w7.heap.size + 1 by rw [hW0]; simp)
  rw [← hW0]
  clear hW0
  refine (eq_mat _ _ _ _ _ _ O_g0.out.rats O_w0.out.rats HAN.out).mono ?_
  rintro e w9 ⟨rfl, bw9⟩
  replace O_w0 := Lib.hid (O_w0.out.below bw9)
  replace O_pw0 := Lib.hid (O_pw0.out.below bw9)
  replace O_x0 := Lib.hid (O_x0.out.below bw9)
  replace O_g0 := Lib.hid (O_g0.out.below bw9)
  replace O_pg0 := Lib.hid (O_pg0.out.below bw9)
  replace D_a0 := Lib.hid (D_a0.out.below bw9)
  replace D_w0 := Lib.hid (D_w0.out.below bw9)
  replace D_x0 := Lib.hid (D_x0.out.below bw9)
  replace D_g0 := Lib.hid (D_g0.out.below bw9)
  replace B := Lib.hid (B.out.trans (bw9.mono B.out.size))
  have z_w9 := Lib.hid bw9.size
  clear bw9
  go_wp2_with fail
  refine (eq_intsB _ _ _ _ O_pg0.out.row O_pw0.out.row).mono ?_
  rintro e w10 ⟨rfl, bw10⟩
  replace O_w0 := Lib.hid (O_w0.out.below bw10)
  replace O_pw0 := Lib.hid (O_pw0.out.below bw10)
  replace O_x0 := Lib.hid (O_x0.out.below bw10)
  replace O_g0 := Lib.hid (O_g0.out.below bw10)
  replace O_pg0 := Lib.hid (O_pg0.out.below bw10)
  replace D_a0 := Lib.hid (D_a0.out.below bw10)
  replace D_w0 := Lib.hid (D_w0.out.below bw10)
  replace D_x0 := Lib.hid (D_x0.out.below bw10)
  replace D_g0 := Lib.hid (D_g0.out.below bw10)
  replace B := Lib.hid (B.out.trans (bw10.mono B.out.size))
  have z_w10 := Lib.hid bw10.size
  clear bw10
  go_wp2_with fail
  have c0_x0 := D_x0.out.c0
  have c1_x0 := D_x0.out.c1
  have c2_x0 := D_x0.out.c2
  have lt_x0 := D_x0.out.lt
  have c0_a0 := D_a0.out.c0
  have c1_a0 := D_a0.out.c1
  have c2_a0 := D_a0.out.c2
  have lt_a0 := D_a0.out.lt
  go_region_held3 (fun w' => w'.cell? ⟨w5.heap.size, 0, none⟩ = some (.int .i64 r0) ∧ w'.cell? ⟨w5.heap.size, 1, none⟩ = some (.int .i64 q0) ∧ w'.cell? ⟨w5.heap.size, 2, none⟩ = some (.slice a_x0 zs0.length c_x0) ∧ w'.cell? ⟨W.heap.size, 0, none⟩ = some (.int .i64 r0) ∧ w'.cell? ⟨W.heap.size, 1, none⟩ = some (.int .i64 q0) ∧ w'.cell? ⟨W.heap.size, 2, none⟩ = some (.slice a0 m0 c0)) (first | exact ⟨g12_0_x0, g12_1_x0, g12_2_x0, g12_0_a0, g12_1_a0, g12_2_a0⟩ | exact ⟨g11_0_x0, g11_1_x0, g11_2_x0, g11_0_a0, g11_1_a0, g11_2_a0⟩ | exact ⟨c0_x0, c1_x0, c2_x0, c0_a0, c1_a0, c2_a0⟩)
    (first
      | (have := bb11; go_at_call 30; refine (eq_mat _ _ _ _ _ _ (O_x0.out.rats.below bb11) o_t2.rats HN0.out).mono ?_; rintro e w12 ⟨rfl, bw12⟩; have bb12 : Below w10.heap.size w10 w12 := bb11.trans (bw12.mono bb11.size); have g12_0_x0 := (bb12.cell (p := ⟨w5.heap.size, 0, none⟩) lt_x0).trans c0_x0; have g12_1_x0 := (bb12.cell (p := ⟨w5.heap.size, 1, none⟩) lt_x0).trans c1_x0; have g12_2_x0 := (bb12.cell (p := ⟨w5.heap.size, 2, none⟩) lt_x0).trans c2_x0; have g12_0_a0 := (bb12.cell (p := ⟨W.heap.size, 0, none⟩) lt_a0).trans c0_a0; have g12_1_a0 := (bb12.cell (p := ⟨W.heap.size, 1, none⟩) lt_a0).trans c1_a0; have g12_2_a0 := (bb12.cell (p := ⟨W.heap.size, 2, none⟩) lt_a0).trans c2_a0)
      | (go_at_call 29; refine (to_mat r0 q0 _ zs0 _ (R0.out.below (B.out.trans (Below.mono (by first | exact Below.refl _ _ | exact (Below.refl _ _).drew) B.out.size))) HN0.out HL0.out).mono ?_; rintro e w11 ⟨v_t2, x_t2, rfl, o_t2, bw11⟩; obtain ⟨a_t2, c_t2, rfl⟩ := o_t2.slice; have bb11 : Below w10.heap.size w10 w11 := (by first | exact bw11 | exact ((Below.refl _ _).drew).trans bw11); have g11_0_x0 := (bb11.cell (p := ⟨w5.heap.size, 0, none⟩) lt_x0).trans c0_x0; have g11_1_x0 := (bb11.cell (p := ⟨w5.heap.size, 1, none⟩) lt_x0).trans c1_x0; have g11_2_x0 := (bb11.cell (p := ⟨w5.heap.size, 2, none⟩) lt_x0).trans c2_x0; have g11_0_a0 := (bb11.cell (p := ⟨W.heap.size, 0, none⟩) lt_a0).trans c0_a0; have g11_1_a0 := (bb11.cell (p := ⟨W.heap.size, 1, none⟩) lt_a0).trans c1_a0; have g11_2_a0 := (bb11.cell (p := ⟨W.heap.size, 2, none⟩) lt_a0).trans c2_a0))
  clear bw11
  have bw11 := bb11
  replace o_t2 : OwnV w11 w10.heap.size _ _ _ := o_t2
  replace O_w0 := Lib.hid (O_w0.out.below bw11)
  replace O_pw0 := Lib.hid (O_pw0.out.below bw11)
  replace O_x0 := Lib.hid (O_x0.out.below bw11)
  replace O_g0 := Lib.hid (O_g0.out.below bw11)
  replace O_pg0 := Lib.hid (O_pg0.out.below bw11)
  replace D_a0 := Lib.hid (D_a0.out.below bw11)
  replace D_w0 := Lib.hid (D_w0.out.below bw11)
  replace D_x0 := Lib.hid (D_x0.out.below bw11)
  replace D_g0 := Lib.hid (D_g0.out.below bw11)
  replace B := Lib.hid (B.out.trans (bw11.mono B.out.size))
  have z_w11 := Lib.hid bw11.size
  have O_t2 := Lib.hid o_t2
  have L_t2 := Lib.hid o_t2.lt
  clear o_t2
  clear bw11
  clear g11_0_x0 g11_1_x0 g11_2_x0
  clear g11_0_a0 g11_1_a0 g11_2_a0
  replace O_w0 := Lib.hid (O_w0.out.below bw12)
  replace O_pw0 := Lib.hid (O_pw0.out.below bw12)
  replace O_x0 := Lib.hid (O_x0.out.below bw12)
  replace O_g0 := Lib.hid (O_g0.out.below bw12)
  replace O_pg0 := Lib.hid (O_pg0.out.below bw12)
  replace O_t2 := Lib.hid (O_t2.out.below bw12)
  replace D_a0 := Lib.hid (D_a0.out.below bw12)
  replace D_w0 := Lib.hid (D_w0.out.below bw12)
  replace D_x0 := Lib.hid (D_x0.out.below bw12)
  replace D_g0 := Lib.hid (D_g0.out.below bw12)
  replace B := Lib.hid (B.out.trans (bw12.mono B.out.size))
  have z_w12 := Lib.hid bw12.size
  clear bw12
  clear g12_0_x0 g12_1_x0 g12_2_x0
  clear g12_0_a0 g12_1_a0 g12_2_a0
  clear bb11 bb12
  clear c0_x0 c1_x0 c2_x0 lt_x0
  clear c0_a0 c1_a0 c2_a0 lt_a0
  clear O_t2 L_t2
  have c0_x0 := D_x0.out.c0
  have c1_x0 := D_x0.out.c1
  have c2_x0 := D_x0.out.c2
  go_wp2_with fail
  clear c0_x0 c1_x0 c2_x0
  refine (mark_mat _ _ _ (1) _ (zs0) _ _ _ (by simp) O_x0.out (by skip; have := HC0.out; skip; omega) (by have := HN0.out; omega)).mono ?_
  rintro e w13 ⟨rfl, om, bk⟩
  replace O_w0 := Lib.hid (O_w0.out.kept bk (fun k hk hs => by have := L_w0.out k hk; have := L_x0.out k hs; have := zw.out; have := z_w1.out; have := z_w2.out; have := z_w3.out; have := z_w4.out; have := z_w5.out; have := z_w6.out; have := z_w7.out; have := z_w8.out; have := z_w9.out; have := z_w10.out; have := z_w11.out; have := z_w12.out; omega))
  replace O_pw0 := Lib.hid (O_pw0.out.kept bk (fun k hk hs => by have := L_pw0.out k hk; have := L_x0.out k hs; have := zw.out; have := z_w1.out; have := z_w2.out; have := z_w3.out; have := z_w4.out; have := z_w5.out; have := z_w6.out; have := z_w7.out; have := z_w8.out; have := z_w9.out; have := z_w10.out; have := z_w11.out; have := z_w12.out; omega))
  replace O_g0 := Lib.hid (O_g0.out.kept bk (fun k hk hs => by have := L_g0.out k hk; have := L_x0.out k hs; have := zw.out; have := z_w1.out; have := z_w2.out; have := z_w3.out; have := z_w4.out; have := z_w5.out; have := z_w6.out; have := z_w7.out; have := z_w8.out; have := z_w9.out; have := z_w10.out; have := z_w11.out; have := z_w12.out; omega))
  replace O_pg0 := Lib.hid (O_pg0.out.kept bk (fun k hk hs => by have := L_pg0.out k hk; have := L_x0.out k hs; have := zw.out; have := z_w1.out; have := z_w2.out; have := z_w3.out; have := z_w4.out; have := z_w5.out; have := z_w6.out; have := z_w7.out; have := z_w8.out; have := z_w9.out; have := z_w10.out; have := z_w11.out; have := z_w12.out; omega))
  replace D_a0 := Lib.hid (B3.keptK D_a0.out bk (fun hs => by have := L_x0.out _ hs; have := zw.out; have := z_w1.out; have := z_w2.out; have := z_w3.out; have := z_w4.out; have := z_w5.out; have := z_w6.out; have := z_w7.out; have := z_w8.out; have := z_w9.out; have := z_w10.out; have := z_w11.out; have := z_w12.out; omega))
  replace D_w0 := Lib.hid (B3.keptK D_w0.out bk (fun hs => by have := L_x0.out _ hs; have := zw.out; have := z_w1.out; have := z_w2.out; have := z_w3.out; have := z_w4.out; have := z_w5.out; have := z_w6.out; have := z_w7.out; have := z_w8.out; have := z_w9.out; have := z_w10.out; have := z_w11.out; have := z_w12.out; omega))
  replace D_x0 := Lib.hid (B3.keptK D_x0.out bk (fun hs => by have := L_x0.out _ hs; have := zw.out; have := z_w1.out; have := z_w2.out; have := z_w3.out; have := z_w4.out; have := z_w5.out; have := z_w6.out; have := z_w7.out; have := z_w8.out; have := z_w9.out; have := z_w10.out; have := z_w11.out; have := z_w12.out; omega))
  replace D_g0 := Lib.hid (B3.keptK D_g0.out bk (fun hs => by have := L_x0.out _ hs; have := zw.out; have := z_w1.out; have := z_w2.out; have := z_w3.out; have := z_w4.out; have := z_w5.out; have := z_w6.out; have := z_w7.out; have := z_w8.out; have := z_w9.out; have := z_w10.out; have := z_w11.out; have := z_w12.out; omega))
  replace B := Lib.hid (below_kept B.out bk B.out.size (fun k hk => by have := L_x0.out k hk; have := zw.out; have := z_w1.out; have := z_w2.out; have := z_w3.out; have := z_w4.out; have := z_w5.out; have := z_w6.out; have := z_w7.out; have := z_w8.out; have := z_w9.out; have := z_w10.out; have := z_w11.out; have := z_w12.out; have := B.out.size; omega))
  have z_w13 := Lib.hid bk.size
  replace O_x0 := Lib.hid om
  clear om bk
  clear O_x0 L_x0
  have c0_g0 := D_g0.out.c0
  have c1_g0 := D_g0.out.c1
  have c2_g0 := D_g0.out.c2
  have c0_w0 := D_w0.out.c0
  have c1_w0 := D_w0.out.c1
  have c2_w0 := D_w0.out.c2
  go_wp2_with fail
  clear c0_g0 c1_g0 c2_g0
  clear c0_w0 c1_w0 c2_w0
  refine (eq_mat _ _ _ _ _ _ O_g0.out.rats O_w0.out.rats HAN.out).mono ?_
  rintro e w14 ⟨rfl, bw14⟩
  replace O_w0 := Lib.hid (O_w0.out.below bw14)
  replace O_pw0 := Lib.hid (O_pw0.out.below bw14)
  replace O_g0 := Lib.hid (O_g0.out.below bw14)
  replace O_pg0 := Lib.hid (O_pg0.out.below bw14)
  replace D_a0 := Lib.hid (D_a0.out.below bw14)
  replace D_w0 := Lib.hid (D_w0.out.below bw14)
  replace D_x0 := Lib.hid (D_x0.out.below bw14)
  replace D_g0 := Lib.hid (D_g0.out.below bw14)
  replace B := Lib.hid (B.out.trans (bw14.mono B.out.size))
  have z_w14 := Lib.hid bw14.size
  clear bw14
  go_wp2_with fail
  refine (eq_intsB _ _ _ _ O_pg0.out.row O_pw0.out.row).mono ?_
  rintro e w15 ⟨rfl, bw15⟩
  replace O_w0 := Lib.hid (O_w0.out.below bw15)
  replace O_pw0 := Lib.hid (O_pw0.out.below bw15)
  replace O_g0 := Lib.hid (O_g0.out.below bw15)
  replace O_pg0 := Lib.hid (O_pg0.out.below bw15)
  replace D_a0 := Lib.hid (D_a0.out.below bw15)
  replace D_w0 := Lib.hid (D_w0.out.below bw15)
  replace D_x0 := Lib.hid (D_x0.out.below bw15)
  replace D_g0 := Lib.hid (D_g0.out.below bw15)
  replace B := Lib.hid (B.out.trans (bw15.mono B.out.size))
  have z_w15 := Lib.hid bw15.size
  clear bw15
  have c0_g0 := D_g0.out.c0
  have c1_g0 := D_g0.out.c1
  have c2_g0 := D_g0.out.c2
  go_wp2_with fail
  clear c0_g0 c1_g0 c2_g0
  refine (mark_mat _ _ _ (1) _ (ZL) _ _ _ (by simp) O_g0.out (by have := HA.out; have := HC0.out; skip; omega) (by have := HAN.out; omega)).mono ?_
  rintro e w16 ⟨rfl, om, bk⟩
  replace O_w0 := Lib.hid (O_w0.out.kept bk (fun k hk hs => by have := L_w0.out k hk; have := L_g0.out k hs; have := zw.out; have := z_w1.out; have := z_w2.out; have := z_w3.out; have := z_w4.out; have := z_w5.out; have := z_w6.out; have := z_w7.out; have := z_w8.out; have := z_w9.out; have := z_w10.out; have := z_w11.out; have := z_w12.out; have := z_w13.out; have := z_w14.out; have := z_w15.out; omega))
  replace O_pw0 := Lib.hid (O_pw0.out.kept bk (fun k hk hs => by have := L_pw0.out k hk; have := L_g0.out k hs; have := zw.out; have := z_w1.out; have := z_w2.out; have := z_w3.out; have := z_w4.out; have := z_w5.out; have := z_w6.out; have := z_w7.out; have := z_w8.out; have := z_w9.out; have := z_w10.out; have := z_w11.out; have := z_w12.out; have := z_w13.out; have := z_w14.out; have := z_w15.out; omega))
  replace O_pg0 := Lib.hid (O_pg0.out.kept bk (fun k hk hs => DJ_g0.out k hs hk))
  replace D_a0 := Lib.hid (B3.keptK D_a0.out bk (fun hs => by have := L_g0.out _ hs; have := zw.out; have := z_w1.out; have := z_w2.out; have := z_w3.out; have := z_w4.out; have := z_w5.out; have := z_w6.out; have := z_w7.out; have := z_w8.out; have := z_w9.out; have := z_w10.out; have := z_w11.out; have := z_w12.out; have := z_w13.out; have := z_w14.out; have := z_w15.out; omega))
  replace D_w0 := Lib.hid (B3.keptK D_w0.out bk (fun hs => by have := L_g0.out _ hs; have := zw.out; have := z_w1.out; have := z_w2.out; have := z_w3.out; have := z_w4.out; have := z_w5.out; have := z_w6.out; have := z_w7.out; have := z_w8.out; have := z_w9.out; have := z_w10.out; have := z_w11.out; have := z_w12.out; have := z_w13.out; have := z_w14.out; have := z_w15.out; omega))
  replace D_x0 := Lib.hid (B3.keptK D_x0.out bk (fun hs => by have := L_g0.out _ hs; have := zw.out; have := z_w1.out; have := z_w2.out; have := z_w3.out; have := z_w4.out; have := z_w5.out; have := z_w6.out; have := z_w7.out; have := z_w8.out; have := z_w9.out; have := z_w10.out; have := z_w11.out; have := z_w12.out; have := z_w13.out; have := z_w14.out; have := z_w15.out; omega))
  replace D_g0 := Lib.hid (B3.keptK D_g0.out bk (fun hs => by have := L_g0.out _ hs; have := zw.out; have := z_w1.out; have := z_w2.out; have := z_w3.out; have := z_w4.out; have := z_w5.out; have := z_w6.out; have := z_w7.out; have := z_w8.out; have := z_w9.out; have := z_w10.out; have := z_w11.out; have := z_w12.out; have := z_w13.out; have := z_w14.out; have := z_w15.out; omega))
  replace B := Lib.hid (below_kept B.out bk B.out.size (fun k hk => by have := L_g0.out k hk; have := zw.out; have := z_w1.out; have := z_w2.out; have := z_w3.out; have := z_w4.out; have := z_w5.out; have := z_w6.out; have := z_w7.out; have := z_w8.out; have := z_w9.out; have := z_w10.out; have := z_w11.out; have := z_w12.out; have := z_w13.out; have := z_w14.out; have := z_w15.out; have := B.out.size; omega))
  have z_w16 := Lib.hid bk.size
  replace O_g0 := Lib.hid om
  clear om bk
  go_wp2_with fail
  refine (mark_ints _ (1 + cntL ZL) _ _ _ _ (by simp) O_pg0.out (by have := HP9.out; have := HA.out; have := HC0.out; skip; omega)).mono ?_
  rintro e w17 ⟨rfl, om, gw⟩
  have bk := Kept.of_grown gw
  clear gw
  replace O_w0 := Lib.hid (O_w0.out.kept bk (fun k hk hs => by have := L_w0.out k hk; have := L_pg0.out k hs; have := zw.out; have := z_w1.out; have := z_w2.out; have := z_w3.out; have := z_w4.out; have := z_w5.out; have := z_w6.out; have := z_w7.out; have := z_w8.out; have := z_w9.out; have := z_w10.out; have := z_w11.out; have := z_w12.out; have := z_w13.out; have := z_w14.out; have := z_w15.out; have := z_w16.out; omega))
  replace O_pw0 := Lib.hid (O_pw0.out.kept bk (fun k hk hs => by have := L_pw0.out k hk; have := L_pg0.out k hs; have := zw.out; have := z_w1.out; have := z_w2.out; have := z_w3.out; have := z_w4.out; have := z_w5.out; have := z_w6.out; have := z_w7.out; have := z_w8.out; have := z_w9.out; have := z_w10.out; have := z_w11.out; have := z_w12.out; have := z_w13.out; have := z_w14.out; have := z_w15.out; have := z_w16.out; omega))
  replace O_g0 := Lib.hid (O_g0.out.kept bk (fun k hk hs => DJ_g0.out k hk hs))
  replace D_a0 := Lib.hid (B3.keptK D_a0.out bk (fun hs => by have := L_pg0.out _ hs; have := zw.out; have := z_w1.out; have := z_w2.out; have := z_w3.out; have := z_w4.out; have := z_w5.out; have := z_w6.out; have := z_w7.out; have := z_w8.out; have := z_w9.out; have := z_w10.out; have := z_w11.out; have := z_w12.out; have := z_w13.out; have := z_w14.out; have := z_w15.out; have := z_w16.out; omega))
  replace D_w0 := Lib.hid (B3.keptK D_w0.out bk (fun hs => by have := L_pg0.out _ hs; have := zw.out; have := z_w1.out; have := z_w2.out; have := z_w3.out; have := z_w4.out; have := z_w5.out; have := z_w6.out; have := z_w7.out; have := z_w8.out; have := z_w9.out; have := z_w10.out; have := z_w11.out; have := z_w12.out; have := z_w13.out; have := z_w14.out; have := z_w15.out; have := z_w16.out; omega))
  replace D_x0 := Lib.hid (B3.keptK D_x0.out bk (fun hs => by have := L_pg0.out _ hs; have := zw.out; have := z_w1.out; have := z_w2.out; have := z_w3.out; have := z_w4.out; have := z_w5.out; have := z_w6.out; have := z_w7.out; have := z_w8.out; have := z_w9.out; have := z_w10.out; have := z_w11.out; have := z_w12.out; have := z_w13.out; have := z_w14.out; have := z_w15.out; have := z_w16.out; omega))
  replace D_g0 := Lib.hid (B3.keptK D_g0.out bk (fun hs => by have := L_pg0.out _ hs; have := zw.out; have := z_w1.out; have := z_w2.out; have := z_w3.out; have := z_w4.out; have := z_w5.out; have := z_w6.out; have := z_w7.out; have := z_w8.out; have := z_w9.out; have := z_w10.out; have := z_w11.out; have := z_w12.out; have := z_w13.out; have := z_w14.out; have := z_w15.out; have := z_w16.out; omega))
  replace B := Lib.hid (below_kept B.out bk B.out.size (fun k hk => by have := L_pg0.out k hk; have := zw.out; have := z_w1.out; have := z_w2.out; have := z_w3.out; have := z_w4.out; have := z_w5.out; have := z_w6.out; have := z_w7.out; have := z_w8.out; have := z_w9.out; have := z_w10.out; have := z_w11.out; have := z_w12.out; have := z_w13.out; have := z_w14.out; have := z_w15.out; have := z_w16.out; have := B.out.size; omega))
  have z_w17 := Lib.hid bk.size
  replace O_pg0 := Lib.hid om
  clear om bk
  have c0_g0 := D_g0.out.c0
  have c1_g0 := D_g0.out.c1
  have c2_g0 := D_g0.out.c2
  go_wp2_with fail
  clear c0_g0 c1_g0 c2_g0
  refine (held_mat _ _ _ (1) _ ZL _ (by simp) O_g0.out.rats (by have := HA.out; omega)).mono ?_
  rintro e w18 ⟨rfl, bw18⟩
  replace O_w0 := Lib.hid (O_w0.out.below bw18)
  replace O_pw0 := Lib.hid (O_pw0.out.below bw18)
  replace O_g0 := Lib.hid (O_g0.out.below bw18)
  replace O_pg0 := Lib.hid (O_pg0.out.below bw18)
  replace D_a0 := Lib.hid (D_a0.out.below bw18)
  replace D_w0 := Lib.hid (D_w0.out.below bw18)
  replace D_x0 := Lib.hid (D_x0.out.below bw18)
  replace D_g0 := Lib.hid (D_g0.out.below bw18)
  replace B := Lib.hid (B.out.trans (bw18.mono B.out.size))
  have z_w18 := Lib.hid bw18.size
  clear bw18
  go_wp2_with fail
  refine (held_intsB _ ZP.length (1 + cntL ZL) _ _ (by simp) O_pg0.out.row (by have := HP9.out; have := HA.out; omega)).mono ?_
  rintro e w19 ⟨rfl, bw19⟩
  replace O_w0 := Lib.hid (O_w0.out.below bw19)
  replace O_pw0 := Lib.hid (O_pw0.out.below bw19)
  replace O_g0 := Lib.hid (O_g0.out.below bw19)
  replace O_pg0 := Lib.hid (O_pg0.out.below bw19)
  replace D_a0 := Lib.hid (D_a0.out.below bw19)
  replace D_w0 := Lib.hid (D_w0.out.below bw19)
  replace D_x0 := Lib.hid (D_x0.out.below bw19)
  replace D_g0 := Lib.hid (D_g0.out.below bw19)
  replace B := Lib.hid (B.out.trans (bw19.mono B.out.size))
  have z_w19 := Lib.hid bw19.size
  clear bw19
  have c0_a0 := D_a0.out.c0
  have c1_a0 := D_a0.out.c1
  have c2_a0 := D_a0.out.c2
  go_wp2_with fail
  clear c0_a0 c1_a0 c2_a0
  refine (to_mat r0 q0 _ zs0 _ (R0.out.below B.out) HN0.out HL0.out).mono ?_
  rintro e w20 ⟨v_t3, x_t3, rfl, o_t3, bw20⟩
  obtain ⟨a_t3, c_t3, rfl⟩ := o_t3.slice
  replace O_w0 := Lib.hid (O_w0.out.below bw20)
  replace O_pw0 := Lib.hid (O_pw0.out.below bw20)
  replace O_g0 := Lib.hid (O_g0.out.below bw20)
  replace O_pg0 := Lib.hid (O_pg0.out.below bw20)
  replace D_a0 := Lib.hid (D_a0.out.below bw20)
  replace D_w0 := Lib.hid (D_w0.out.below bw20)
  replace D_x0 := Lib.hid (D_x0.out.below bw20)
  replace D_g0 := Lib.hid (D_g0.out.below bw20)
  replace B := Lib.hid (B.out.trans (bw20.mono B.out.size))
  have z_w20 := Lib.hid bw20.size
  have O_t3 := Lib.hid o_t3
  have L_t3 := Lib.hid o_t3.lt
  clear o_t3
  clear bw20
  go_wp2_with fail
  have hc9 := impl_reduceM r0 q0 _ zs0 w20 O_t3.out.rats
  rw [← HZL.out, ← HZR.out, ← HZC.out, ← HZP.out] at hc9
  refine (hc9).mono ?_
  rintro e w21 ⟨v_h0, x_h0, v_ph0, rfl, o_h0, o_ph0, dj_h0, bw21⟩
  obtain ⟨a_h0, c_h0, rfl⟩ := o_h0.slice
  obtain ⟨a_ph0, c_ph0, rfl⟩ := o_ph0.slice
  replace O_w0 := Lib.hid (O_w0.out.below bw21)
  replace O_pw0 := Lib.hid (O_pw0.out.below bw21)
  replace O_g0 := Lib.hid (O_g0.out.below bw21)
  replace O_pg0 := Lib.hid (O_pg0.out.below bw21)
  replace O_t3 := Lib.hid (O_t3.out.below bw21)
  replace D_a0 := Lib.hid (D_a0.out.below bw21)
  replace D_w0 := Lib.hid (D_w0.out.below bw21)
  replace D_x0 := Lib.hid (D_x0.out.below bw21)
  replace D_g0 := Lib.hid (D_g0.out.below bw21)
  replace B := Lib.hid (B.out.trans (bw21.mono B.out.size))
  have z_w21 := Lib.hid bw21.size
  have O_h0 := Lib.hid o_h0
  have L_h0 := Lib.hid o_h0.lt
  clear o_h0
  have O_ph0 := Lib.hid o_ph0
  have L_ph0 := Lib.hid o_ph0.lt
  clear o_ph0
  clear bw21
  have DJ_h0 := Lib.hid dj_h0
  clear dj_h0
  clear O_t3 L_t3
  have c0_w0 := D_w0.out.c0
  have c1_w0 := D_w0.out.c1
  have c2_w0 := D_w0.out.c2
  have lt_w0 := D_w0.out.lt
  have hz := B.out.size
  go_wp2_with fail
  clear c0_w0 c1_w0 c2_w0 lt_w0
  clear hz
  obtain ⟨w22, hW0⟩ : ∃ x, x = w21.alloc (.cells #[.int .i64 ZR, .int .i64 ZC, .slice a_h0 ZL.length c_h0] 25) := ⟨_, rfl⟩
  replace O_w0 := Lib.hid (show OwnV w22 _ _ _ _ by rw [hW0]; exact O_w0.out.alloc _)
  replace O_pw0 := Lib.hid (show OwnI w22 _ _ _ by rw [hW0]; exact O_pw0.out.alloc _)
  replace O_g0 := Lib.hid (show OwnV w22 _ _ _ _ by rw [hW0]; exact O_g0.out.alloc _)
  replace O_pg0 := Lib.hid (show OwnI w22 _ _ _ by rw [hW0]; exact O_pg0.out.alloc _)
  replace O_h0 := Lib.hid (show OwnV w22 _ _ _ _ by rw [hW0]; exact O_h0.out.alloc _)
  replace O_ph0 := Lib.hid (show OwnI w22 _ _ _ by rw [hW0]; exact O_ph0.out.alloc _)
  replace D_a0 := Lib.hid (show B3 w22 _ _ _ _ _ by rw [hW0]; exact D_a0.out.alloc _)
  replace D_w0 := Lib.hid (show B3 w22 _ _ _ _ _ by rw [hW0]; exact D_w0.out.alloc _)
  replace D_x0 := Lib.hid (show B3 w22 _ _ _ _ _ by rw [hW0]; exact D_x0.out.alloc _)
  replace D_g0 := Lib.hid (show B3 w22 _ _ _ _ _ by rw [hW0]; exact D_g0.out.alloc _)
  have D_h0 := Lib.hid (show B3 w22 w21.heap.size 25 (.int .i64 ZR) (.int .i64 ZC) (.slice a_h0 ZL.length c_h0) by rw [hW0]; exact B3.new _ _ _ _ _)
  replace B := Lib.hid (show Below W.heap.size W w22 by rw [hW0]; exact B.out.alloc B.out.size _)
  have z_w22 := Lib.hid (show w22.heap.size = w21.heap.size + 1 by rw [hW0]; simp)
  rw [← hW0]
  clear hW0
  refine (eq_mat _ _ _ _ _ _ O_h0.out.rats O_w0.out.rats HAN.out).mono ?_
  rintro e w23 ⟨rfl, bw23⟩
  replace O_w0 := Lib.hid (O_w0.out.below bw23)
  replace O_pw0 := Lib.hid (O_pw0.out.below bw23)
  replace O_g0 := Lib.hid (O_g0.out.below bw23)
  replace O_pg0 := Lib.hid (O_pg0.out.below bw23)
  replace O_h0 := Lib.hid (O_h0.out.below bw23)
  replace O_ph0 := Lib.hid (O_ph0.out.below bw23)
  replace D_a0 := Lib.hid (D_a0.out.below bw23)
  replace D_w0 := Lib.hid (D_w0.out.below bw23)
  replace D_x0 := Lib.hid (D_x0.out.below bw23)
  replace D_g0 := Lib.hid (D_g0.out.below bw23)
  replace D_h0 := Lib.hid (D_h0.out.below bw23)
  replace B := Lib.hid (B.out.trans (bw23.mono B.out.size))
  have z_w23 := Lib.hid bw23.size
  clear bw23
  go_wp2_with fail
  refine (eq_intsB _ _ _ _ O_ph0.out.row O_pw0.out.row).mono ?_
  rintro e w24 ⟨rfl, bw24⟩
  replace O_w0 := Lib.hid (O_w0.out.below bw24)
  replace O_pw0 := Lib.hid (O_pw0.out.below bw24)
  replace O_g0 := Lib.hid (O_g0.out.below bw24)
  replace O_pg0 := Lib.hid (O_pg0.out.below bw24)
  replace O_h0 := Lib.hid (O_h0.out.below bw24)
  replace O_ph0 := Lib.hid (O_ph0.out.below bw24)
  replace D_a0 := Lib.hid (D_a0.out.below bw24)
  replace D_w0 := Lib.hid (D_w0.out.below bw24)
  replace D_x0 := Lib.hid (D_x0.out.below bw24)
  replace D_g0 := Lib.hid (D_g0.out.below bw24)
  replace D_h0 := Lib.hid (D_h0.out.below bw24)
  replace B := Lib.hid (B.out.trans (bw24.mono B.out.size))
  have z_w24 := Lib.hid bw24.size
  clear bw24
  have c0_g0 := D_g0.out.c0
  have c1_g0 := D_g0.out.c1
  have c2_g0 := D_g0.out.c2
  go_wp2_with fail
  clear c0_g0 c1_g0 c2_g0
  refine (held_mat _ _ _ (1) _ ZL _ (by simp) O_g0.out.rats (by have := HA.out; omega)).mono ?_
  rintro e w25 ⟨rfl, bw25⟩
  replace O_w0 := Lib.hid (O_w0.out.below bw25)
  replace O_pw0 := Lib.hid (O_pw0.out.below bw25)
  replace O_g0 := Lib.hid (O_g0.out.below bw25)
  replace O_pg0 := Lib.hid (O_pg0.out.below bw25)
  replace O_h0 := Lib.hid (O_h0.out.below bw25)
  replace O_ph0 := Lib.hid (O_ph0.out.below bw25)
  replace D_a0 := Lib.hid (D_a0.out.below bw25)
  replace D_w0 := Lib.hid (D_w0.out.below bw25)
  replace D_x0 := Lib.hid (D_x0.out.below bw25)
  replace D_g0 := Lib.hid (D_g0.out.below bw25)
  replace D_h0 := Lib.hid (D_h0.out.below bw25)
  replace B := Lib.hid (B.out.trans (bw25.mono B.out.size))
  have z_w25 := Lib.hid bw25.size
  clear bw25
  go_wp2_with fail
  refine (held_intsB _ ZP.length (1 + cntL ZL) _ _ (by simp) O_pg0.out.row (by have := HP9.out; have := HA.out; omega)).mono ?_
  rintro e w26 ⟨rfl, bw26⟩
  replace O_w0 := Lib.hid (O_w0.out.below bw26)
  replace O_pw0 := Lib.hid (O_pw0.out.below bw26)
  replace O_g0 := Lib.hid (O_g0.out.below bw26)
  replace O_pg0 := Lib.hid (O_pg0.out.below bw26)
  replace O_h0 := Lib.hid (O_h0.out.below bw26)
  replace O_ph0 := Lib.hid (O_ph0.out.below bw26)
  replace D_a0 := Lib.hid (D_a0.out.below bw26)
  replace D_w0 := Lib.hid (D_w0.out.below bw26)
  replace D_x0 := Lib.hid (D_x0.out.below bw26)
  replace D_g0 := Lib.hid (D_g0.out.below bw26)
  replace D_h0 := Lib.hid (D_h0.out.below bw26)
  replace B := Lib.hid (B.out.trans (bw26.mono B.out.size))
  have z_w26 := Lib.hid bw26.size
  clear bw26
  go_wp2
  go_ret
  exact ⟨rfl, B.out⟩

end Go.Proofs.YtlepgkkpopjgoaaGreat
