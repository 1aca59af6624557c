/- The exact law of ApplyMatrix. -/
import Derived.Test.YtojklmckjebplaaGreatMatImul
import Derived.Test.YtojklmckjebplaaGreatVecx
import Derived.Deep.CutBlock
import Derived.Deep.CutRange
import Derived.Deep.RegionHeld3
namespace Go.Proofs.YtojklmckjebplaaGreat
open Go.RowKit Go.WideShapes Go.ChangeShapes
set_option linter.unusedVariables false
set_option linter.unusedSimpArgs false
theorem inn_lens (A B : List Fr) : (innV A B).mag.length ≤ 60 ∧ (innV A B).den.length ≤ 60 := by
  have := sumX_len (zipF mulX A B); unfold innV; omega
theorem spec_innL (v0 : Value) (L0 : List Fr) (v1 : Value) (L1 : List Fr) (w : World) (h0 : RatsAt w v0 L0) (h1 : RatsAt w v1 L1) (hl : L0.length = L1.length) (hb : L0.length ≤ 24)
    (hE0 : ∀ k (hk : k < L0.length), ratOk (L0[k]'hk).neg (L0[k]'hk).mag (L0[k]'hk).den = true) (hE1 : ∀ k (hk : k < L1.length), ratOk (L1[k]'hk).neg (L1[k]'hk).mag (L1[k]'hk).den = true) :
    Calls Tryz.prog 39 #[v0, v1] w fun r w' => ∃ x y, r = .returned (.agg #[.bool (innV L0 L1).neg, x, y]) ∧ OwnR w' w.heap.size x (innV L0 L1).mag y (innV L0 L1).den ∧ Below w.heap.size w w' :=
  spec_inner v0 L0 v1 L1 w h0 h1 hl hb hE0 hE1
theorem amL_len (r c : Int) (L V : List Fr) : cntL (amL ratOk innV r c L V) ≤ 100000 := by
  unfold amL
  split
  · rename_i hb
    have hm : matB ratOk r c L = true := by unfold amB at hb; simp only [Bool.and_eq_true] at hb; exact hb.1
    obtain ⟨R, C, rfl, rfl, hR, hC, hL, hRC, hE⟩ := matB_parts hm
    rw [Int.toNat_natCast, Int.toNat_natCast]
    refine cntM_le (by unfold apL; rw [List.length_map, List.length_range]; omega) (fun f hf => ?_)
    unfold apL at hf
    obtain ⟨i, _, rfl⟩ := List.mem_map.1 hf
    exact inn_lens _ _
  · exact cnt_nil
theorem spec_amL (r c : Int) (v : Value) (L : List Fr) (u : Value) (V : List Fr) (w : World) (h : RatsAt w v L) (h' : RatsAt w u V) :
    Calls Tryz.prog 13 #[.agg #[.int .i64 r, .int .i64 c, v], u] w fun e w' => ∃ x xs, e = .returned (.tuple #[x, .bool (amB ratOk innV r c L V)]) ∧ OwnV w' w.heap.size x (amL ratOk innV r c L V) xs ∧ Below w.heap.size w w' := spec_applyMatrix ratOk innV (fun v0 L0 v1 L1 w h0 h1 hl hb hE0 hE1 => spec_innL v0 L0 v1 L1 w h0 h1 hl hb hE0 hE1) (fun b v zs d ds w h => spec_ratOk b v zs d ds w h) r c v L u V w h h'
theorem impl_amL (r c : Int) (v : Value) (L : List Fr) (u : Value) (V : List Fr) (w : World) (h : RatsAt w v L) (h' : RatsAt w u V) :
    Calls Tryz.prog 15 #[.agg #[.int .i64 r, .int .i64 c, v], u] w fun e w' => ∃ x xs, e = .returned (.tuple #[x, .bool (amB ratOk innV r c L V)]) ∧ OwnV w' w.heap.size x (amL ratOk innV r c L V) xs ∧ Below w.heap.size w w' := impl_applyMatrix r c v L u V w h h'
set_option maxRecDepth 100000
set_option maxHeartbeats 4000000 in
theorem law_applyMatrix (W : World) (r0 q0 : Int) (v0 : Value) (zs0 : List Fr) (h0 : RatsAt W v0 zs0) (_ : True) (v1 : Value) (zs1 : List Fr) (h1 : RatsAt W v1 zs1) (_ : True) :
    Calls Tryz.prog 4 #[.agg #[.int .i64 r0, .int .i64 q0, v0], v1] W fun e w' => e = .returned (.bool true) ∧ Below W.heap.size W w' := by
  have R0 := Lib.hid h0
  obtain ⟨a0, c0, rfl, g0, k0⟩ := ratsAt_form h0
  clear h0
  obtain ⟨m0, hm0'⟩ : ∃ n, zs0.length = n := ⟨_, rfl⟩
  rw [hm0'] at R0 g0 ⊢
  have N0 := Lib.hid hm0'
  clear hm0'
  have R1 := Lib.hid h1
  clear h1
  by_cases hs0 : (zs0.length : Int) + szL zs0 ≤ 1048576
  rotate_left
  · go_enter Tryz.func4, Tryz.ntmps4
    go_wp2_with fail
    obtain ⟨W0, hW0⟩ : ∃ x, x = (W.alloc (.cells #[.int .i64 r0, .int .i64 q0, .slice a0 m0 c0] 24)) := ⟨_, rfl⟩
    have B := Lib.hid (show Below W.heap.size W W0 by rw [hW0]; exact ((Below.refl W.heap.size W).alloc (Nat.le_refl _) (.cells #[.int .i64 r0, .int .i64 q0, .slice a0 m0 c0] 24)))
    have D_a0 := Lib.hid (show B3 W0 W.heap.size 24 (.int .i64 r0) (.int .i64 q0) (.slice a0 m0 c0) by rw [hW0]; exact b3_at (B3.new _ _ _ _ _) (by simp))
    have zw := Lib.hid (show W0.heap.size = W.heap.size + 1 by rw [hW0]; simp)
    rw [← hW0]
    clear hW0
    refine (sz_mat_no r0 q0 _ zs0 (1048576) _ (R0.out.below B.out) (by omega) (by omega)).mono ?_
    rintro e w1 ⟨rfl, bw1⟩
    replace D_a0 := Lib.hid (D_a0.out.below bw1)
    replace B := Lib.hid (B.out.trans (bw1.mono B.out.size))
    have z_w1 := Lib.hid bw1.size
    clear bw1
    go_wp2
    go_ret
    exact ⟨rfl, B.out⟩
  by_cases hs1 : (zs1.length : Int) + szL zs1 ≤ 1048576 - (zs0.length : Int) - szL zs0
  rotate_left
  · go_enter Tryz.func4, Tryz.ntmps4
    go_wp2_with fail
    obtain ⟨W0, hW0⟩ : ∃ x, x = (W.alloc (.cells #[.int .i64 r0, .int .i64 q0, .slice a0 m0 c0] 24)) := ⟨_, rfl⟩
    have B := Lib.hid (show Below W.heap.size W W0 by rw [hW0]; exact ((Below.refl W.heap.size W).alloc (Nat.le_refl _) (.cells #[.int .i64 r0, .int .i64 q0, .slice a0 m0 c0] 24)))
    have D_a0 := Lib.hid (show B3 W0 W.heap.size 24 (.int .i64 r0) (.int .i64 q0) (.slice a0 m0 c0) by rw [hW0]; exact b3_at (B3.new _ _ _ _ _) (by simp))
    have zw := Lib.hid (show W0.heap.size = W.heap.size + 1 by rw [hW0]; simp)
    rw [← hW0]
    clear hW0
    refine (sz_mat_yes r0 q0 _ zs0 (1048576) _ (R0.out.below B.out) (by omega) (by omega)).mono ?_
    rintro e w1 ⟨rfl, bw1⟩
    replace D_a0 := Lib.hid (D_a0.out.below bw1)
    replace B := Lib.hid (B.out.trans (bw1.mono B.out.size))
    have z_w1 := Lib.hid bw1.size
    clear bw1
    go_wp2_with fail
    refine (sz_ratv_no _ zs1 (1048576 - (zs0.length : Int) - szL zs0) _ (R1.out.below B.out) (by omega) (by omega)).mono ?_
    rintro e w2 ⟨rfl, bw2⟩
    replace D_a0 := Lib.hid (D_a0.out.below bw2)
    replace B := Lib.hid (B.out.trans (bw2.mono B.out.size))
    have z_w2 := Lib.hid bw2.size
    clear bw2
    go_wp2
    go_ret
    exact ⟨rfl, B.out⟩
  have HL0 := Lib.hid (show ∀ f ∈ zs0, f.mag.length ≤ 1099511627776 ∧ f.den.length ≤ 1099511627776 from fun f hf => by have := szL_mem hf; omega)
  have HN0 := Lib.hid (show zs0.length ≤ 1048576 by omega)
  have HC0 := Lib.hid (show cntL zs0 ≤ 1048576 by unfold cntL; omega)
  have HL1 := Lib.hid (show ∀ f ∈ zs1, f.mag.length ≤ 1099511627776 ∧ f.den.length ≤ 1099511627776 from fun f hf => by have := szL_mem hf; omega)
  have HN1 := Lib.hid (show zs1.length ≤ 1048576 by omega)
  have HC1 := Lib.hid (show cntL zs1 ≤ 1048576 by unfold cntL; omega)
  have hLEN := amL_len r0 q0 zs0 zs1
  obtain ⟨ZL, hZL⟩ : ∃ x, x = amL ratOk innV r0 q0 zs0 zs1 := ⟨_, rfl⟩
  have HZL := Lib.hid hZL
  rw [← hZL] at hLEN
  have HA := Lib.hid (show cntL ZL ≤ 100000 from hLEN)
  have HAN := Lib.hid (show ZL.length ≤ 1048576 by have := HA.out; unfold cntL at this; omega)
  clear hLEN hZL
  go_enter Tryz.func4, Tryz.ntmps4
  go_wp2_with fail
  obtain ⟨W0, hW0⟩ : ∃ x, x = (W.alloc (.cells #[.int .i64 r0, .int .i64 q0, .slice a0 m0 c0] 24)) := ⟨_, rfl⟩
  have B := Lib.hid (show Below W.heap.size W W0 by rw [hW0]; exact ((Below.refl W.heap.size W).alloc (Nat.le_refl _) (.cells #[.int .i64 r0, .int .i64 q0, .slice a0 m0 c0] 24)))
  have D_a0 := Lib.hid (show B3 W0 W.heap.size 24 (.int .i64 r0) (.int .i64 q0) (.slice a0 m0 c0) by rw [hW0]; exact b3_at (B3.new _ _ _ _ _) (by simp))
  have zw := Lib.hid (show W0.heap.size = W.heap.size + 1 by rw [hW0]; simp)
  rw [← hW0]
  clear hW0
  refine (sz_mat_yes r0 q0 _ zs0 (1048576) _ (R0.out.below B.out) (by omega) (by omega)).mono ?_
  rintro e w1 ⟨rfl, bw1⟩
  replace D_a0 := Lib.hid (D_a0.out.below bw1)
  replace B := Lib.hid (B.out.trans (bw1.mono B.out.size))
  have z_w1 := Lib.hid bw1.size
  clear bw1
  go_wp2_with fail
  refine (sz_ratv_yes _ zs1 (1048576 - (zs0.length : Int) - szL zs0) _ (R1.out.below B.out) (by omega) (by omega)).mono ?_
  rintro e w2 ⟨rfl, bw2⟩
  replace D_a0 := Lib.hid (D_a0.out.below bw2)
  replace B := Lib.hid (B.out.trans (bw2.mono B.out.size))
  have z_w2 := Lib.hid bw2.size
  clear bw2
  have c0_a0 := D_a0.out.c0
  have c1_a0 := D_a0.out.c1
  have c2_a0 := D_a0.out.c2
  go_wp2_with fail
  clear c0_a0 c1_a0 c2_a0
  refine (to_mat r0 q0 _ zs0 _ (R0.out.below B.out) HN0.out HL0.out).mono ?_
  rintro e w3 ⟨v_t1, x_t1, rfl, o_t1, bw3⟩
  obtain ⟨a_t1, c_t1, rfl⟩ := o_t1.slice
  replace D_a0 := Lib.hid (D_a0.out.below bw3)
  replace B := Lib.hid (B.out.trans (bw3.mono B.out.size))
  have z_w3 := Lib.hid bw3.size
  have O_t1 := Lib.hid o_t1
  have L_t1 := Lib.hid o_t1.lt
  clear o_t1
  clear bw3
  go_wp2_with fail
  refine (to_ratv _ zs1 _ (R1.out.below B.out) HN1.out HL1.out).mono ?_
  rintro e w4 ⟨v_t2, x_t2, rfl, o_t2, bw4⟩
  replace O_t1 := Lib.hid (O_t1.out.below bw4)
  replace D_a0 := Lib.hid (D_a0.out.below bw4)
  replace B := Lib.hid (B.out.trans (bw4.mono B.out.size))
  have z_w4 := Lib.hid bw4.size
  have O_t2 := Lib.hid o_t2
  have L_t2 := Lib.hid o_t2.lt
  clear o_t2
  clear bw4
  go_wp2_with fail
  have hc9 := spec_amL r0 q0 _ zs0 _ zs1 w4 O_t1.out.rats O_t2.out.rats
  rw [← HZL.out] at hc9
  refine (hc9).mono ?_
  rintro e w5 ⟨v_w0, x_w0, rfl, o_w0, bw5⟩
  replace O_t1 := Lib.hid (O_t1.out.below bw5)
  replace O_t2 := Lib.hid (O_t2.out.below bw5)
  replace D_a0 := Lib.hid (D_a0.out.below bw5)
  replace B := Lib.hid (B.out.trans (bw5.mono B.out.size))
  have z_w5 := Lib.hid bw5.size
  have O_w0 := Lib.hid o_w0
  have L_w0 := Lib.hid o_w0.lt
  clear o_w0
  clear bw5
  clear O_t1 L_t1
  clear O_t2 L_t2
  have c0_a0 := D_a0.out.c0
  have c1_a0 := D_a0.out.c1
  have c2_a0 := D_a0.out.c2
  go_wp2_with fail
  clear c0_a0 c1_a0 c2_a0
  refine (to_mat r0 q0 _ zs0 _ (R0.out.below B.out) HN0.out HL0.out).mono ?_
  rintro e w6 ⟨v_x0, x_x0, rfl, o_x0, bw6⟩
  obtain ⟨a_x0, c_x0, rfl⟩ := o_x0.slice
  replace O_w0 := Lib.hid (O_w0.out.below bw6)
  replace D_a0 := Lib.hid (D_a0.out.below bw6)
  replace B := Lib.hid (B.out.trans (bw6.mono B.out.size))
  have z_w6 := Lib.hid bw6.size
  have O_x0 := Lib.hid o_x0
  have L_x0 := Lib.hid o_x0.lt
  clear o_x0
  clear bw6
  have hz := B.out.size
  go_wp2_with fail
  clear hz
  obtain ⟨w7, hW0⟩ : ∃ x, x = w6.alloc (.cells #[.int .i64 r0, .int .i64 q0, .slice a_x0 zs0.length c_x0] 28) := ⟨_, rfl⟩
  replace O_w0 := Lib.hid (show OwnV w7 _ _ _ _ by rw [hW0]; exact O_w0.out.alloc _)
  replace O_x0 := Lib.hid (show OwnV w7 _ _ _ _ by rw [hW0]; exact O_x0.out.alloc _)
  replace D_a0 := Lib.hid (show B3 w7 _ _ _ _ _ by rw [hW0]; exact D_a0.out.alloc _)
  have D_x0 := Lib.hid (show B3 w7 w6.heap.size 28 (.int .i64 r0) (.int .i64 q0) (.slice a_x0 zs0.length c_x0) by rw [hW0]; exact B3.new _ _ _ _ _)
  replace B := Lib.hid (show Below W.heap.size W w7 by rw [hW0]; exact B.out.alloc B.out.size _)
  have z_w7 := Lib.hid (show w7.heap.size = w6.heap.size + 1 by rw [hW0]; simp)
  rw [← hW0]
  clear hW0
  refine (to_ratv _ zs1 _ (R1.out.below B.out) HN1.out HL1.out).mono ?_
  rintro e w8 ⟨v_x1, x_x1, rfl, o_x1, bw8⟩
  replace O_w0 := Lib.hid (O_w0.out.below bw8)
  replace O_x0 := Lib.hid (O_x0.out.below bw8)
  replace D_a0 := Lib.hid (D_a0.out.below bw8)
  replace D_x0 := Lib.hid (D_x0.out.below bw8)
  replace B := Lib.hid (B.out.trans (bw8.mono B.out.size))
  have z_w8 := Lib.hid bw8.size
  have O_x1 := Lib.hid o_x1
  have L_x1 := Lib.hid o_x1.lt
  clear o_x1
  clear bw8
  have c0_x0 := D_x0.out.c0
  have c1_x0 := D_x0.out.c1
  have c2_x0 := D_x0.out.c2
  go_wp2_with fail
  clear c0_x0 c1_x0 c2_x0
  have hc9 := impl_amL r0 q0 _ zs0 _ zs1 w8 O_x0.out.rats O_x1.out.rats
  rw [← HZL.out] at hc9
  refine (hc9).mono ?_
  rintro e w9 ⟨v_g0, x_g0, rfl, o_g0, bw9⟩
  replace O_w0 := Lib.hid (O_w0.out.below bw9)
  replace O_x0 := Lib.hid (O_x0.out.below bw9)
  replace O_x1 := Lib.hid (O_x1.out.below bw9)
  replace D_a0 := Lib.hid (D_a0.out.below bw9)
  replace D_x0 := Lib.hid (D_x0.out.below bw9)
  replace B := Lib.hid (B.out.trans (bw9.mono B.out.size))
  have z_w9 := Lib.hid bw9.size
  have O_g0 := Lib.hid o_g0
  have L_g0 := Lib.hid o_g0.lt
  clear o_g0
  clear bw9
  go_wp2_with fail
  refine (eq_ratv _ _ _ _ O_g0.out.rats O_w0.out.rats HAN.out).mono ?_
  rintro e w10 ⟨rfl, bw10⟩
  replace O_w0 := Lib.hid (O_w0.out.below bw10)
  replace O_x0 := Lib.hid (O_x0.out.below bw10)
  replace O_x1 := Lib.hid (O_x1.out.below bw10)
  replace O_g0 := Lib.hid (O_g0.out.below bw10)
  replace D_a0 := Lib.hid (D_a0.out.below bw10)
  replace D_x0 := Lib.hid (D_x0.out.below bw10)
  replace B := Lib.hid (B.out.trans (bw10.mono B.out.size))
  have z_w10 := Lib.hid bw10.size
  clear bw10
  go_wp2_with fail
  have c0_x0 := D_x0.out.c0
  have c1_x0 := D_x0.out.c1
  have c2_x0 := D_x0.out.c2
  have lt_x0 := D_x0.out.lt
  have c0_a0 := D_a0.out.c0
  have c1_a0 := D_a0.out.c1
  have c2_a0 := D_a0.out.c2
  have lt_a0 := D_a0.out.lt
  go_region_held3 (fun w' => w'.cell? ⟨w6.heap.size, 0, none⟩ = some (.int .i64 r0) ∧ w'.cell? ⟨w6.heap.size, 1, none⟩ = some (.int .i64 q0) ∧ w'.cell? ⟨w6.heap.size, 2, none⟩ = some (.slice a_x0 zs0.length c_x0) ∧ w'.cell? ⟨W.heap.size, 0, none⟩ = some (.int .i64 r0) ∧ w'.cell? ⟨W.heap.size, 1, none⟩ = some (.int .i64 q0) ∧ w'.cell? ⟨W.heap.size, 2, none⟩ = some (.slice a0 m0 c0)) (first | exact ⟨g12_0_x0, g12_1_x0, g12_2_x0, g12_0_a0, g12_1_a0, g12_2_a0⟩ | exact ⟨g11_0_x0, g11_1_x0, g11_2_x0, g11_0_a0, g11_1_a0, g11_2_a0⟩ | exact ⟨c0_x0, c1_x0, c2_x0, c0_a0, c1_a0, c2_a0⟩)
    (first
      | (have := bb11; go_at_call 9; refine (eq_mat _ _ _ _ _ _ (O_x0.out.rats.below bb11) o_t3.rats HN0.out).mono ?_; rintro e w12 ⟨rfl, bw12⟩; have bb12 : Below w10.heap.size w10 w12 := bb11.trans (bw12.mono bb11.size); have g12_0_x0 := (bb12.cell (p := ⟨w6.heap.size, 0, none⟩) lt_x0).trans c0_x0; have g12_1_x0 := (bb12.cell (p := ⟨w6.heap.size, 1, none⟩) lt_x0).trans c1_x0; have g12_2_x0 := (bb12.cell (p := ⟨w6.heap.size, 2, none⟩) lt_x0).trans c2_x0; have g12_0_a0 := (bb12.cell (p := ⟨W.heap.size, 0, none⟩) lt_a0).trans c0_a0; have g12_1_a0 := (bb12.cell (p := ⟨W.heap.size, 1, none⟩) lt_a0).trans c1_a0; have g12_2_a0 := (bb12.cell (p := ⟨W.heap.size, 2, none⟩) lt_a0).trans c2_a0)
      | (go_at_call 7; refine (to_mat r0 q0 _ zs0 _ (R0.out.below (B.out.trans (Below.mono (by first | exact Below.refl _ _ | exact (Below.refl _ _).drew) B.out.size))) HN0.out HL0.out).mono ?_; rintro e w11 ⟨v_t3, x_t3, rfl, o_t3, bw11⟩; obtain ⟨a_t3, c_t3, rfl⟩ := o_t3.slice; have bb11 : Below w10.heap.size w10 w11 := (by first | exact bw11 | exact ((Below.refl _ _).drew).trans bw11); have g11_0_x0 := (bb11.cell (p := ⟨w6.heap.size, 0, none⟩) lt_x0).trans c0_x0; have g11_1_x0 := (bb11.cell (p := ⟨w6.heap.size, 1, none⟩) lt_x0).trans c1_x0; have g11_2_x0 := (bb11.cell (p := ⟨w6.heap.size, 2, none⟩) lt_x0).trans c2_x0; have g11_0_a0 := (bb11.cell (p := ⟨W.heap.size, 0, none⟩) lt_a0).trans c0_a0; have g11_1_a0 := (bb11.cell (p := ⟨W.heap.size, 1, none⟩) lt_a0).trans c1_a0; have g11_2_a0 := (bb11.cell (p := ⟨W.heap.size, 2, none⟩) lt_a0).trans c2_a0))
  clear bw11
  have bw11 := bb11
  replace o_t3 : OwnV w11 w10.heap.size _ _ _ := o_t3
  replace O_w0 := Lib.hid (O_w0.out.below bw11)
  replace O_x0 := Lib.hid (O_x0.out.below bw11)
  replace O_x1 := Lib.hid (O_x1.out.below bw11)
  replace O_g0 := Lib.hid (O_g0.out.below bw11)
  replace D_a0 := Lib.hid (D_a0.out.below bw11)
  replace D_x0 := Lib.hid (D_x0.out.below bw11)
  replace B := Lib.hid (B.out.trans (bw11.mono B.out.size))
  have z_w11 := Lib.hid bw11.size
  have O_t3 := Lib.hid o_t3
  have L_t3 := Lib.hid o_t3.lt
  clear o_t3
  clear bw11
  clear g11_0_x0 g11_1_x0 g11_2_x0
  clear g11_0_a0 g11_1_a0 g11_2_a0
  replace O_w0 := Lib.hid (O_w0.out.below bw12)
  replace O_x0 := Lib.hid (O_x0.out.below bw12)
  replace O_x1 := Lib.hid (O_x1.out.below bw12)
  replace O_g0 := Lib.hid (O_g0.out.below bw12)
  replace O_t3 := Lib.hid (O_t3.out.below bw12)
  replace D_a0 := Lib.hid (D_a0.out.below bw12)
  replace D_x0 := Lib.hid (D_x0.out.below bw12)
  replace B := Lib.hid (B.out.trans (bw12.mono B.out.size))
  have z_w12 := Lib.hid bw12.size
  clear bw12
  clear g12_0_x0 g12_1_x0 g12_2_x0
  clear g12_0_a0 g12_1_a0 g12_2_a0
  clear bb11 bb12
  clear c0_x0 c1_x0 c2_x0 lt_x0
  clear c0_a0 c1_a0 c2_a0 lt_a0
  clear O_t3 L_t3
  go_wp2_with fail
  refine (to_ratv _ zs1 _ (R1.out.below B.out) HN1.out HL1.out).mono ?_
  rintro e w13 ⟨v_t4, x_t4, rfl, o_t4, bw13⟩
  replace O_w0 := Lib.hid (O_w0.out.below bw13)
  replace O_x0 := Lib.hid (O_x0.out.below bw13)
  replace O_x1 := Lib.hid (O_x1.out.below bw13)
  replace O_g0 := Lib.hid (O_g0.out.below bw13)
  replace D_a0 := Lib.hid (D_a0.out.below bw13)
  replace D_x0 := Lib.hid (D_x0.out.below bw13)
  replace B := Lib.hid (B.out.trans (bw13.mono B.out.size))
  have z_w13 := Lib.hid bw13.size
  have O_t4 := Lib.hid o_t4
  have L_t4 := Lib.hid o_t4.lt
  clear o_t4
  clear bw13
  go_wp2_with fail
  refine (eq_ratv _ _ _ _ O_x1.out.rats O_t4.out.rats HN1.out).mono ?_
  rintro e w14 ⟨rfl, bw14⟩
  replace O_w0 := Lib.hid (O_w0.out.below bw14)
  replace O_x0 := Lib.hid (O_x0.out.below bw14)
  replace O_x1 := Lib.hid (O_x1.out.below bw14)
  replace O_g0 := Lib.hid (O_g0.out.below bw14)
  replace O_t4 := Lib.hid (O_t4.out.below bw14)
  replace D_a0 := Lib.hid (D_a0.out.below bw14)
  replace D_x0 := Lib.hid (D_x0.out.below bw14)
  replace B := Lib.hid (B.out.trans (bw14.mono B.out.size))
  have z_w14 := Lib.hid bw14.size
  clear bw14
  clear O_t4 L_t4
  have c0_x0 := D_x0.out.c0
  have c1_x0 := D_x0.out.c1
  have c2_x0 := D_x0.out.c2
  go_wp2_with fail
  clear c0_x0 c1_x0 c2_x0
  refine (mark_mat _ _ _ (1) _ (zs0) _ _ _ (by simp) O_x0.out (by skip; have := HC0.out; have := HC1.out; skip; omega) (by have := HN0.out; omega)).mono ?_
  rintro e w15 ⟨rfl, om, bk⟩
  replace O_w0 := Lib.hid (O_w0.out.kept bk (fun k hk hs => by have := L_w0.out k hk; have := L_x0.out k hs; have := zw.out; have := z_w1.out; have := z_w2.out; have := z_w3.out; have := z_w4.out; have := z_w5.out; have := z_w6.out; have := z_w7.out; have := z_w8.out; have := z_w9.out; have := z_w10.out; have := z_w11.out; have := z_w12.out; have := z_w13.out; have := z_w14.out; omega))
  replace O_x1 := Lib.hid (O_x1.out.kept bk (fun k hk hs => by have := L_x1.out k hk; have := L_x0.out k hs; have := zw.out; have := z_w1.out; have := z_w2.out; have := z_w3.out; have := z_w4.out; have := z_w5.out; have := z_w6.out; have := z_w7.out; have := z_w8.out; have := z_w9.out; have := z_w10.out; have := z_w11.out; have := z_w12.out; have := z_w13.out; have := z_w14.out; omega))
  replace O_g0 := Lib.hid (O_g0.out.kept bk (fun k hk hs => by have := L_g0.out k hk; have := L_x0.out k hs; have := zw.out; have := z_w1.out; have := z_w2.out; have := z_w3.out; have := z_w4.out; have := z_w5.out; have := z_w6.out; have := z_w7.out; have := z_w8.out; have := z_w9.out; have := z_w10.out; have := z_w11.out; have := z_w12.out; have := z_w13.out; have := z_w14.out; omega))
  replace D_a0 := Lib.hid (B3.keptK D_a0.out bk (fun hs => by have := L_x0.out _ hs; have := zw.out; have := z_w1.out; have := z_w2.out; have := z_w3.out; have := z_w4.out; have := z_w5.out; have := z_w6.out; have := z_w7.out; have := z_w8.out; have := z_w9.out; have := z_w10.out; have := z_w11.out; have := z_w12.out; have := z_w13.out; have := z_w14.out; omega))
  replace D_x0 := Lib.hid (B3.keptK D_x0.out bk (fun hs => by have := L_x0.out _ hs; have := zw.out; have := z_w1.out; have := z_w2.out; have := z_w3.out; have := z_w4.out; have := z_w5.out; have := z_w6.out; have := z_w7.out; have := z_w8.out; have := z_w9.out; have := z_w10.out; have := z_w11.out; have := z_w12.out; have := z_w13.out; have := z_w14.out; omega))
  replace B := Lib.hid (below_kept B.out bk B.out.size (fun k hk => by have := L_x0.out k hk; have := zw.out; have := z_w1.out; have := z_w2.out; have := z_w3.out; have := z_w4.out; have := z_w5.out; have := z_w6.out; have := z_w7.out; have := z_w8.out; have := z_w9.out; have := z_w10.out; have := z_w11.out; have := z_w12.out; have := z_w13.out; have := z_w14.out; have := B.out.size; omega))
  have z_w15 := Lib.hid bk.size
  replace O_x0 := Lib.hid om
  clear om bk
  go_wp2_with fail
  refine (mark_ratv _ (1 + cntL zs0) _ (zs1) _ _ _ (by simp) O_x1.out (by skip; have := HC0.out; have := HC1.out; skip; omega) (by have := HN1.out; omega)).mono ?_
  rintro e w16 ⟨rfl, om, bk⟩
  replace O_w0 := Lib.hid (O_w0.out.kept bk (fun k hk hs => by have := L_w0.out k hk; have := L_x1.out k hs; have := zw.out; have := z_w1.out; have := z_w2.out; have := z_w3.out; have := z_w4.out; have := z_w5.out; have := z_w6.out; have := z_w7.out; have := z_w8.out; have := z_w9.out; have := z_w10.out; have := z_w11.out; have := z_w12.out; have := z_w13.out; have := z_w14.out; have := z_w15.out; omega))
  replace O_x0 := Lib.hid (O_x0.out.kept bk (fun k hk hs => by have := L_x0.out k hk; have := L_x1.out k hs; have := zw.out; have := z_w1.out; have := z_w2.out; have := z_w3.out; have := z_w4.out; have := z_w5.out; have := z_w6.out; have := z_w7.out; have := z_w8.out; have := z_w9.out; have := z_w10.out; have := z_w11.out; have := z_w12.out; have := z_w13.out; have := z_w14.out; have := z_w15.out; omega))
  replace O_g0 := Lib.hid (O_g0.out.kept bk (fun k hk hs => by have := L_g0.out k hk; have := L_x1.out k hs; have := zw.out; have := z_w1.out; have := z_w2.out; have := z_w3.out; have := z_w4.out; have := z_w5.out; have := z_w6.out; have := z_w7.out; have := z_w8.out; have := z_w9.out; have := z_w10.out; have := z_w11.out; have := z_w12.out; have := z_w13.out; have := z_w14.out; have := z_w15.out; omega))
  replace D_a0 := Lib.hid (B3.keptK D_a0.out bk (fun hs => by have := L_x1.out _ hs; have := zw.out; have := z_w1.out; have := z_w2.out; have := z_w3.out; have := z_w4.out; have := z_w5.out; have := z_w6.out; have := z_w7.out; have := z_w8.out; have := z_w9.out; have := z_w10.out; have := z_w11.out; have := z_w12.out; have := z_w13.out; have := z_w14.out; have := z_w15.out; omega))
  replace D_x0 := Lib.hid (B3.keptK D_x0.out bk (fun hs => by have := L_x1.out _ hs; have := zw.out; have := z_w1.out; have := z_w2.out; have := z_w3.out; have := z_w4.out; have := z_w5.out; have := z_w6.out; have := z_w7.out; have := z_w8.out; have := z_w9.out; have := z_w10.out; have := z_w11.out; have := z_w12.out; have := z_w13.out; have := z_w14.out; have := z_w15.out; omega))
  replace B := Lib.hid (below_kept B.out bk B.out.size (fun k hk => by have := L_x1.out k hk; have := zw.out; have := z_w1.out; have := z_w2.out; have := z_w3.out; have := z_w4.out; have := z_w5.out; have := z_w6.out; have := z_w7.out; have := z_w8.out; have := z_w9.out; have := z_w10.out; have := z_w11.out; have := z_w12.out; have := z_w13.out; have := z_w14.out; have := z_w15.out; have := B.out.size; omega))
  have z_w16 := Lib.hid bk.size
  replace O_x1 := Lib.hid om
  clear om bk
  clear O_x0 L_x0
  clear O_x1 L_x1
  go_wp2_with fail
  refine (eq_ratv _ _ _ _ O_g0.out.rats O_w0.out.rats HAN.out).mono ?_
  rintro e w17 ⟨rfl, bw17⟩
  replace O_w0 := Lib.hid (O_w0.out.below bw17)
  replace O_g0 := Lib.hid (O_g0.out.below bw17)
  replace D_a0 := Lib.hid (D_a0.out.below bw17)
  replace D_x0 := Lib.hid (D_x0.out.below bw17)
  replace B := Lib.hid (B.out.trans (bw17.mono B.out.size))
  have z_w17 := Lib.hid bw17.size
  clear bw17
  go_wp2_with fail
  refine (mark_ratv _ (1) _ (ZL) _ _ _ (by simp) O_g0.out (by have := HA.out; have := HC0.out; have := HC1.out; skip; omega) (by have := HAN.out; omega)).mono ?_
  rintro e w18 ⟨rfl, om, bk⟩
  replace O_w0 := Lib.hid (O_w0.out.kept bk (fun k hk hs => by have := L_w0.out k hk; have := L_g0.out k hs; have := zw.out; have := z_w1.out; have := z_w2.out; have := z_w3.out; have := z_w4.out; have := z_w5.out; have := z_w6.out; have := z_w7.out; have := z_w8.out; have := z_w9.out; have := z_w10.out; have := z_w11.out; have := z_w12.out; have := z_w13.out; have := z_w14.out; have := z_w15.out; have := z_w16.out; have := z_w17.out; omega))
  replace D_a0 := Lib.hid (B3.keptK D_a0.out bk (fun hs => by have := L_g0.out _ hs; have := zw.out; have := z_w1.out; have := z_w2.out; have := z_w3.out; have := z_w4.out; have := z_w5.out; have := z_w6.out; have := z_w7.out; have := z_w8.out; have := z_w9.out; have := z_w10.out; have := z_w11.out; have := z_w12.out; have := z_w13.out; have := z_w14.out; have := z_w15.out; have := z_w16.out; have := z_w17.out; omega))
  replace D_x0 := Lib.hid (B3.keptK D_x0.out bk (fun hs => by have := L_g0.out _ hs; have := zw.out; have := z_w1.out; have := z_w2.out; have := z_w3.out; have := z_w4.out; have := z_w5.out; have := z_w6.out; have := z_w7.out; have := z_w8.out; have := z_w9.out; have := z_w10.out; have := z_w11.out; have := z_w12.out; have := z_w13.out; have := z_w14.out; have := z_w15.out; have := z_w16.out; have := z_w17.out; omega))
  replace B := Lib.hid (below_kept B.out bk B.out.size (fun k hk => by have := L_g0.out k hk; have := zw.out; have := z_w1.out; have := z_w2.out; have := z_w3.out; have := z_w4.out; have := z_w5.out; have := z_w6.out; have := z_w7.out; have := z_w8.out; have := z_w9.out; have := z_w10.out; have := z_w11.out; have := z_w12.out; have := z_w13.out; have := z_w14.out; have := z_w15.out; have := z_w16.out; have := z_w17.out; have := B.out.size; omega))
  have z_w18 := Lib.hid bk.size
  replace O_g0 := Lib.hid om
  clear om bk
  go_wp2_with fail
  refine (held_ratv _ (1) _ ZL _ (by simp) O_g0.out.rats (by have := HA.out; omega)).mono ?_
  rintro e w19 ⟨rfl, bw19⟩
  replace O_w0 := Lib.hid (O_w0.out.below bw19)
  replace O_g0 := Lib.hid (O_g0.out.below bw19)
  replace D_a0 := Lib.hid (D_a0.out.below bw19)
  replace D_x0 := Lib.hid (D_x0.out.below bw19)
  replace B := Lib.hid (B.out.trans (bw19.mono B.out.size))
  have z_w19 := Lib.hid bw19.size
  clear bw19
  have c0_a0 := D_a0.out.c0
  have c1_a0 := D_a0.out.c1
  have c2_a0 := D_a0.out.c2
  go_wp2_with fail
  clear c0_a0 c1_a0 c2_a0
  refine (to_mat r0 q0 _ zs0 _ (R0.out.below B.out) HN0.out HL0.out).mono ?_
  rintro e w20 ⟨v_t5, x_t5, rfl, o_t5, bw20⟩
  obtain ⟨a_t5, c_t5, rfl⟩ := o_t5.slice
  replace O_w0 := Lib.hid (O_w0.out.below bw20)
  replace O_g0 := Lib.hid (O_g0.out.below bw20)
  replace D_a0 := Lib.hid (D_a0.out.below bw20)
  replace D_x0 := Lib.hid (D_x0.out.below bw20)
  replace B := Lib.hid (B.out.trans (bw20.mono B.out.size))
  have z_w20 := Lib.hid bw20.size
  have O_t5 := Lib.hid o_t5
  have L_t5 := Lib.hid o_t5.lt
  clear o_t5
  clear bw20
  go_wp2_with fail
  refine (to_ratv _ zs1 _ (R1.out.below B.out) HN1.out HL1.out).mono ?_
  rintro e w21 ⟨v_t6, x_t6, rfl, o_t6, bw21⟩
  replace O_w0 := Lib.hid (O_w0.out.below bw21)
  replace O_g0 := Lib.hid (O_g0.out.below bw21)
  replace O_t5 := Lib.hid (O_t5.out.below bw21)
  replace D_a0 := Lib.hid (D_a0.out.below bw21)
  replace D_x0 := Lib.hid (D_x0.out.below bw21)
  replace B := Lib.hid (B.out.trans (bw21.mono B.out.size))
  have z_w21 := Lib.hid bw21.size
  have O_t6 := Lib.hid o_t6
  have L_t6 := Lib.hid o_t6.lt
  clear o_t6
  clear bw21
  go_wp2_with fail
  have hc9 := impl_amL r0 q0 _ zs0 _ zs1 w21 O_t5.out.rats O_t6.out.rats
  rw [← HZL.out] at hc9
  refine (hc9).mono ?_
  rintro e w22 ⟨v_h0, x_h0, rfl, o_h0, bw22⟩
  replace O_w0 := Lib.hid (O_w0.out.below bw22)
  replace O_g0 := Lib.hid (O_g0.out.below bw22)
  replace O_t5 := Lib.hid (O_t5.out.below bw22)
  replace O_t6 := Lib.hid (O_t6.out.below bw22)
  replace D_a0 := Lib.hid (D_a0.out.below bw22)
  replace D_x0 := Lib.hid (D_x0.out.below bw22)
  replace B := Lib.hid (B.out.trans (bw22.mono B.out.size))
  have z_w22 := Lib.hid bw22.size
  have O_h0 := Lib.hid o_h0
  have L_h0 := Lib.hid o_h0.lt
  clear o_h0
  clear bw22
  clear O_t5 L_t5
  clear O_t6 L_t6
  go_wp2_with fail
  refine (eq_ratv _ _ _ _ O_h0.out.rats O_w0.out.rats HAN.out).mono ?_
  rintro e w23 ⟨rfl, bw23⟩
  replace O_w0 := Lib.hid (O_w0.out.below bw23)
  replace O_g0 := Lib.hid (O_g0.out.below bw23)
  replace O_h0 := Lib.hid (O_h0.out.below bw23)
  replace D_a0 := Lib.hid (D_a0.out.below bw23)
  replace D_x0 := Lib.hid (D_x0.out.below bw23)
  replace B := Lib.hid (B.out.trans (bw23.mono B.out.size))
  have z_w23 := Lib.hid bw23.size
  clear bw23
  go_wp2_with fail
  refine (held_ratv _ (1) _ ZL _ (by simp) O_g0.out.rats (by have := HA.out; omega)).mono ?_
  rintro e w24 ⟨rfl, bw24⟩
  replace O_w0 := Lib.hid (O_w0.out.below bw24)
  replace O_g0 := Lib.hid (O_g0.out.below bw24)
  replace O_h0 := Lib.hid (O_h0.out.below bw24)
  replace D_a0 := Lib.hid (D_a0.out.below bw24)
  replace D_x0 := Lib.hid (D_x0.out.below bw24)
  replace B := Lib.hid (B.out.trans (bw24.mono B.out.size))
  have z_w24 := Lib.hid bw24.size
  clear bw24
  go_wp2
  go_ret
  exact ⟨rfl, B.out⟩


end Go.Proofs.YtojklmckjebplaaGreat
