/- The exact law of Transpose. -/
import Derived.Test.YtojklmckjebplaaMatItr
import Derived.Test.YtojklmckjebplaaVecOk
import Derived.Test.YtojklmckjebplaaMatLens
import Derived.Test.YtojklmckjebplaaRatsIn
import Derived.Deep.CutBlock
import Derived.Deep.CutRange
import Derived.Deep.RegionHeld3
namespace Go.Proofs.Ytojklmckjebplaa
open Go.RowKit Go.WideShapes Go.ChangeShapes
set_option linter.unusedVariables false
set_option linter.unusedSimpArgs false
theorem tpL_len (r c : Int) (L : List Fr) : cntL (tpL ratOk r c L) ≤ 100000 := by
  unfold tpL
  split
  · rename_i hm
    obtain ⟨R, C, rfl, rfl, hR, hC, hL, hRC, hE⟩ := matB_parts hm
    rw [Int.toNat_natCast, Int.toNat_natCast]
    refine cntM_le (by rw [trM_len, Nat.mul_comm]; exact hRC) (fun f hf => ?_)
    unfold trM at hf
    rw [List.mem_flatMap] at hf
    obtain ⟨k, hk, hf⟩ := hf
    unfold trC at hf
    rw [List.mem_map] at hf
    obtain ⟨i, hi, rfl⟩ := hf
    rw [List.mem_range] at hk hi
    have h9 := row_in (C := C) hi
    rw [el_at (show i * C + k < L.length by omega)]
    exact ok_lens (hE _ _)
  · exact cnt_nil
theorem spec_tpL (r c : Int) (v : Value) (L : List Fr) (w : World) (h : RatsAt w v L) :
    Calls Try.prog 44 #[.agg #[.int .i64 r, .int .i64 c, v]] w fun e w' => ∃ u xs, e = .returned (.agg #[.int .i64 (tpR ratOk r c L), .int .i64 (tpC ratOk r c L), u]) ∧ OwnV w' w.heap.size u (tpL ratOk r c L) xs ∧ Below w.heap.size w w' := spec_transpose ratOk (fun b v zs d ds w h => spec_ratOk b v zs d ds w h) (fun f hf v d w h => spec_copyF f hf v d w h) r c v L w h
theorem impl_tpL (r c : Int) (v : Value) (L : List Fr) (w : World) (h : RatsAt w v L) :
    Calls Try.prog 15 #[.agg #[.int .i64 r, .int .i64 c, v]] w fun e w' => ∃ u xs, e = .returned (.agg #[.int .i64 (tpR ratOk r c L), .int .i64 (tpC ratOk r c L), u]) ∧ OwnV w' w.heap.size u (tpL ratOk r c L) xs ∧ Below w.heap.size w w' := impl_transposeH ratOk (fun v L w h => impl_isV v L w h) (fun f hf v d w h => impl_cloneF f hf v d w h) r c v L w h
set_option maxRecDepth 100000
set_option maxHeartbeats 4000000 in
theorem law_transpose (W : World) (r0 q0 : Int) (v0 : Value) (zs0 : List Fr) (h0 : RatsAt W v0 zs0) (_ : True) :
    Calls Try.prog 9 #[.agg #[.int .i64 r0, .int .i64 q0, v0]] W fun e w' => e = .returned (.bool true) ∧ Below W.heap.size W w' := by
  have R0 := Lib.hid h0
  obtain ⟨a0, c0, rfl, g0, k0⟩ := ratsAt_form h0
  clear h0
  obtain ⟨m0, hm0'⟩ : ∃ n, zs0.length = n := ⟨_, rfl⟩
  rw [hm0'] at R0 g0 ⊢
  have N0 := Lib.hid hm0'
  clear hm0'
  by_cases hs0 : (zs0.length : Int) + szL zs0 ≤ 1048576
  rotate_left
  · go_enter Try.func9, Try.ntmps9
    go_wp2_with fail
    obtain ⟨W0, hW0⟩ : ∃ x, x = (W.alloc (.cells #[.int .i64 r0, .int .i64 q0, .slice a0 m0 c0] 47)) := ⟨_, rfl⟩
    have B := Lib.hid (show Below W.heap.size W W0 by rw [hW0]; exact ((Below.refl W.heap.size W).alloc (Nat.le_refl _) (.cells #[.int .i64 r0, .int .i64 q0, .slice a0 m0 c0] 47)))
    have D_a0 := Lib.hid (show B3 W0 W.heap.size 47 (.int .i64 r0) (.int .i64 q0) (.slice a0 m0 c0) by rw [hW0]; exact b3_at (B3.new _ _ _ _ _) (by simp))
    have zw := Lib.hid (show W0.heap.size = W.heap.size + 1 by rw [hW0]; simp)
    rw [← hW0]
    clear hW0
    refine (sz_mat_no r0 q0 _ zs0 (1048576) _ (R0.out.below B.out) (by omega) (by omega)).mono ?_
    rintro e w1 ⟨rfl, bw1⟩
    replace D_a0 := Lib.hid (D_a0.out.below bw1)
    replace B := Lib.hid (B.out.trans (bw1.mono B.out.size))
    have z_w1 := Lib.hid bw1.size
    clear bw1
    go_wp2
    go_ret
    exact ⟨rfl, B.out⟩
  have HL0 := Lib.hid (show ∀ f ∈ zs0, f.mag.length ≤ 1099511627776 ∧ f.den.length ≤ 1099511627776 from fun f hf => by have := szL_mem hf; omega)
  have HN0 := Lib.hid (show zs0.length ≤ 1048576 by omega)
  have HC0 := Lib.hid (show cntL zs0 ≤ 1048576 by unfold cntL; omega)
  have hLEN := tpL_len r0 q0 zs0
  obtain ⟨ZL, hZL⟩ : ∃ x, x = tpL ratOk r0 q0 zs0 := ⟨_, rfl⟩
  have HZL := Lib.hid hZL
  rw [← hZL] at hLEN
  have HA := Lib.hid (show cntL ZL ≤ 100000 from hLEN)
  have HAN := Lib.hid (show ZL.length ≤ 1048576 by have := HA.out; unfold cntL at this; omega)
  clear hLEN hZL
  obtain ⟨ZR, hZR⟩ : ∃ x, x = tpR ratOk r0 q0 zs0 := ⟨_, rfl⟩
  have HZR := Lib.hid hZR
  obtain ⟨ZC, hZC⟩ : ∃ x, x = tpC ratOk r0 q0 zs0 := ⟨_, rfl⟩
  have HZC := Lib.hid hZC
  clear hZR hZC
  go_enter Try.func9, Try.ntmps9
  go_wp2_with fail
  obtain ⟨W0, hW0⟩ : ∃ x, x = (W.alloc (.cells #[.int .i64 r0, .int .i64 q0, .slice a0 m0 c0] 47)) := ⟨_, rfl⟩
  have B := Lib.hid (show Below W.heap.size W W0 by rw [hW0]; exact ((Below.refl W.heap.size W).alloc (Nat.le_refl _) (.cells #[.int .i64 r0, .int .i64 q0, .slice a0 m0 c0] 47)))
  have D_a0 := Lib.hid (show B3 W0 W.heap.size 47 (.int .i64 r0) (.int .i64 q0) (.slice a0 m0 c0) by rw [hW0]; exact b3_at (B3.new _ _ _ _ _) (by simp))
  have zw := Lib.hid (show W0.heap.size = W.heap.size + 1 by rw [hW0]; simp)
  rw [← hW0]
  clear hW0
  refine (sz_mat_yes r0 q0 _ zs0 (1048576) _ (R0.out.below B.out) (by omega) (by omega)).mono ?_
  rintro e w1 ⟨rfl, bw1⟩
  replace D_a0 := Lib.hid (D_a0.out.below bw1)
  replace B := Lib.hid (B.out.trans (bw1.mono B.out.size))
  have z_w1 := Lib.hid bw1.size
  clear bw1
  have c0_a0 := D_a0.out.c0
  have c1_a0 := D_a0.out.c1
  have c2_a0 := D_a0.out.c2
  go_wp2_with fail
  clear c0_a0 c1_a0 c2_a0
  refine (to_mat r0 q0 _ zs0 _ (R0.out.below B.out) HN0.out HL0.out).mono ?_
  rintro e w2 ⟨v_t1, x_t1, rfl, o_t1, bw2⟩
  obtain ⟨a_t1, c_t1, rfl⟩ := o_t1.slice
  replace D_a0 := Lib.hid (D_a0.out.below bw2)
  replace B := Lib.hid (B.out.trans (bw2.mono B.out.size))
  have z_w2 := Lib.hid bw2.size
  have O_t1 := Lib.hid o_t1
  have L_t1 := Lib.hid o_t1.lt
  clear o_t1
  clear bw2
  go_wp2_with fail
  have hc9 := spec_tpL r0 q0 _ zs0 w2 O_t1.out.rats
  rw [← HZL.out, ← HZR.out, ← HZC.out] at hc9
  refine (hc9).mono ?_
  rintro e w3 ⟨v_w0, x_w0, rfl, o_w0, bw3⟩
  obtain ⟨a_w0, c_w0, rfl⟩ := o_w0.slice
  replace O_t1 := Lib.hid (O_t1.out.below bw3)
  replace D_a0 := Lib.hid (D_a0.out.below bw3)
  replace B := Lib.hid (B.out.trans (bw3.mono B.out.size))
  have z_w3 := Lib.hid bw3.size
  have O_w0 := Lib.hid o_w0
  have L_w0 := Lib.hid o_w0.lt
  clear o_w0
  clear bw3
  clear O_t1 L_t1
  have c0_a0 := D_a0.out.c0
  have c1_a0 := D_a0.out.c1
  have c2_a0 := D_a0.out.c2
  have lt_a0 := D_a0.out.lt
  have hz := B.out.size
  go_wp2_with fail
  clear c0_a0 c1_a0 c2_a0 lt_a0
  clear hz
  obtain ⟨w4, hW0⟩ : ∃ x, x = w3.alloc (.cells #[.int .i64 ZR, .int .i64 ZC, .slice a_w0 ZL.length c_w0] 25) := ⟨_, rfl⟩
  replace O_w0 := Lib.hid (show OwnV w4 _ _ _ _ by rw [hW0]; exact O_w0.out.alloc _)
  replace D_a0 := Lib.hid (show B3 w4 _ _ _ _ _ by rw [hW0]; exact D_a0.out.alloc _)
  have D_w0 := Lib.hid (show B3 w4 w3.heap.size 25 (.int .i64 ZR) (.int .i64 ZC) (.slice a_w0 ZL.length c_w0) by rw [hW0]; exact B3.new _ _ _ _ _)
  replace B := Lib.hid (show Below W.heap.size W w4 by rw [hW0]; exact B.out.alloc B.out.size _)
  have z_w4 := Lib.hid (show w4.heap.size = w3.heap.size + 1 by rw [hW0]; simp)
  rw [← hW0]
  clear hW0
  refine (to_mat r0 q0 _ zs0 _ (R0.out.below B.out) HN0.out HL0.out).mono ?_
  rintro e w5 ⟨v_x0, x_x0, rfl, o_x0, bw5⟩
  obtain ⟨a_x0, c_x0, rfl⟩ := o_x0.slice
  replace O_w0 := Lib.hid (O_w0.out.below bw5)
  replace D_a0 := Lib.hid (D_a0.out.below bw5)
  replace D_w0 := Lib.hid (D_w0.out.below bw5)
  replace B := Lib.hid (B.out.trans (bw5.mono B.out.size))
  have z_w5 := Lib.hid bw5.size
  have O_x0 := Lib.hid o_x0
  have L_x0 := Lib.hid o_x0.lt
  clear o_x0
  clear bw5
  have hz := B.out.size
  go_wp2_with fail
  clear hz
  obtain ⟨w6, hW0⟩ : ∃ x, x = w5.alloc (.cells #[.int .i64 r0, .int .i64 q0, .slice a_x0 zs0.length c_x0] 25) := ⟨_, rfl⟩
  replace O_w0 := Lib.hid (show OwnV w6 _ _ _ _ by rw [hW0]; exact O_w0.out.alloc _)
  replace O_x0 := Lib.hid (show OwnV w6 _ _ _ _ by rw [hW0]; exact O_x0.out.alloc _)
  replace D_a0 := Lib.hid (show B3 w6 _ _ _ _ _ by rw [hW0]; exact D_a0.out.alloc _)
  replace D_w0 := Lib.hid (show B3 w6 _ _ _ _ _ by rw [hW0]; exact D_w0.out.alloc _)
  have D_x0 := Lib.hid (show B3 w6 w5.heap.size 25 (.int .i64 r0) (.int .i64 q0) (.slice a_x0 zs0.length c_x0) by rw [hW0]; exact B3.new _ _ _ _ _)
  replace B := Lib.hid (show Below W.heap.size W w6 by rw [hW0]; exact B.out.alloc B.out.size _)
  have z_w6 := Lib.hid (show w6.heap.size = w5.heap.size + 1 by rw [hW0]; simp)
  rw [← hW0]
  clear hW0
  have hc9 := impl_tpL r0 q0 _ zs0 w6 O_x0.out.rats
  rw [← HZL.out, ← HZR.out, ← HZC.out] at hc9
  refine (hc9).mono ?_
  rintro e w7 ⟨v_g0, x_g0, rfl, o_g0, bw7⟩
  obtain ⟨a_g0, c_g0, rfl⟩ := o_g0.slice
  replace O_w0 := Lib.hid (O_w0.out.below bw7)
  replace O_x0 := Lib.hid (O_x0.out.below bw7)
  replace D_a0 := Lib.hid (D_a0.out.below bw7)
  replace D_w0 := Lib.hid (D_w0.out.below bw7)
  replace D_x0 := Lib.hid (D_x0.out.below bw7)
  replace B := Lib.hid (B.out.trans (bw7.mono B.out.size))
  have z_w7 := Lib.hid bw7.size
  have O_g0 := Lib.hid o_g0
  have L_g0 := Lib.hid o_g0.lt
  clear o_g0
  clear bw7
  have c0_w0 := D_w0.out.c0
  have c1_w0 := D_w0.out.c1
  have c2_w0 := D_w0.out.c2
  have lt_w0 := D_w0.out.lt
  have hz := B.out.size
  go_wp2_with fail
  clear c0_w0 c1_w0 c2_w0 lt_w0
  clear hz
  obtain ⟨w8, hW0⟩ : ∃ x, x = w7.alloc (.cells #[.int .i64 ZR, .int .i64 ZC, .slice a_g0 ZL.length c_g0] 25) := ⟨_, rfl⟩
  replace O_w0 := Lib.hid (show OwnV w8 _ _ _ _ by rw [hW0]; exact O_w0.out.alloc _)
  replace O_x0 := Lib.hid (show OwnV w8 _ _ _ _ by rw [hW0]; exact O_x0.out.alloc _)
  replace O_g0 := Lib.hid (show OwnV w8 _ _ _ _ by rw [hW0]; exact O_g0.out.alloc _)
  replace D_a0 := Lib.hid (show B3 w8 _ _ _ _ _ by rw [hW0]; exact D_a0.out.alloc _)
  replace D_w0 := Lib.hid (show B3 w8 _ _ _ _ _ by rw [hW0]; exact D_w0.out.alloc _)
  replace D_x0 := Lib.hid (show B3 w8 _ _ _ _ _ by rw [hW0]; exact D_x0.out.alloc _)
  have D_g0 := Lib.hid (show B3 w8 w7.heap.size 25 (.int .i64 ZR) (.int .i64 ZC) (.slice a_g0 ZL.length c_g0) by rw [hW0]; exact B3.new _ _ _ _ _)
  replace B := Lib.hid (show Below W.heap.size W w8 by rw [hW0]; exact B.out.alloc B.out.size _)
  have z_w8 := Lib.hid (show w8.heap.size = w7.heap.size + 1 by rw [hW0]; simp)
  rw [← hW0]
  clear hW0
  refine (eq_mat _ _ _ _ _ _ O_g0.out.rats O_w0.out.rats HAN.out).mono ?_
  rintro e w9 ⟨rfl, bw9⟩
  replace O_w0 := Lib.hid (O_w0.out.below bw9)
  replace O_x0 := Lib.hid (O_x0.out.below bw9)
  replace O_g0 := Lib.hid (O_g0.out.below bw9)
  replace D_a0 := Lib.hid (D_a0.out.below bw9)
  replace D_w0 := Lib.hid (D_w0.out.below bw9)
  replace D_x0 := Lib.hid (D_x0.out.below bw9)
  replace D_g0 := Lib.hid (D_g0.out.below bw9)
  replace B := Lib.hid (B.out.trans (bw9.mono B.out.size))
  have z_w9 := Lib.hid bw9.size
  clear bw9
  go_wp2_with fail
  have c0_x0 := D_x0.out.c0
  have c1_x0 := D_x0.out.c1
  have c2_x0 := D_x0.out.c2
  have lt_x0 := D_x0.out.lt
  have c0_a0 := D_a0.out.c0
  have c1_a0 := D_a0.out.c1
  have c2_a0 := D_a0.out.c2
  have lt_a0 := D_a0.out.lt
  go_region_held3 (fun w' => w'.cell? ⟨w5.heap.size, 0, none⟩ = some (.int .i64 r0) ∧ w'.cell? ⟨w5.heap.size, 1, none⟩ = some (.int .i64 q0) ∧ w'.cell? ⟨w5.heap.size, 2, none⟩ = some (.slice a_x0 zs0.length c_x0) ∧ w'.cell? ⟨W.heap.size, 0, none⟩ = some (.int .i64 r0) ∧ w'.cell? ⟨W.heap.size, 1, none⟩ = some (.int .i64 q0) ∧ w'.cell? ⟨W.heap.size, 2, none⟩ = some (.slice a0 m0 c0)) (first | exact ⟨g11_0_x0, g11_1_x0, g11_2_x0, g11_0_a0, g11_1_a0, g11_2_a0⟩ | exact ⟨g10_0_x0, g10_1_x0, g10_2_x0, g10_0_a0, g10_1_a0, g10_2_a0⟩ | exact ⟨c0_x0, c1_x0, c2_x0, c0_a0, c1_a0, c2_a0⟩)
    (first
      | (have := bb10; go_at_call 26; refine (eq_mat _ _ _ _ _ _ (O_x0.out.rats.below bb10) o_t2.rats HN0.out).mono ?_; rintro e w11 ⟨rfl, bw11⟩; have bb11 : Below w9.heap.size w9 w11 := bb10.trans (bw11.mono bb10.size); have g11_0_x0 := (bb11.cell (p := ⟨w5.heap.size, 0, none⟩) lt_x0).trans c0_x0; have g11_1_x0 := (bb11.cell (p := ⟨w5.heap.size, 1, none⟩) lt_x0).trans c1_x0; have g11_2_x0 := (bb11.cell (p := ⟨w5.heap.size, 2, none⟩) lt_x0).trans c2_x0; have g11_0_a0 := (bb11.cell (p := ⟨W.heap.size, 0, none⟩) lt_a0).trans c0_a0; have g11_1_a0 := (bb11.cell (p := ⟨W.heap.size, 1, none⟩) lt_a0).trans c1_a0; have g11_2_a0 := (bb11.cell (p := ⟨W.heap.size, 2, none⟩) lt_a0).trans c2_a0)
      | (go_at_call 25; refine (to_mat r0 q0 _ zs0 _ (R0.out.below (B.out.trans (Below.mono (by first | exact Below.refl _ _ | exact (Below.refl _ _).drew) B.out.size))) HN0.out HL0.out).mono ?_; rintro e w10 ⟨v_t2, x_t2, rfl, o_t2, bw10⟩; obtain ⟨a_t2, c_t2, rfl⟩ := o_t2.slice; have bb10 : Below w9.heap.size w9 w10 := (by first | exact bw10 | exact ((Below.refl _ _).drew).trans bw10); have g10_0_x0 := (bb10.cell (p := ⟨w5.heap.size, 0, none⟩) lt_x0).trans c0_x0; have g10_1_x0 := (bb10.cell (p := ⟨w5.heap.size, 1, none⟩) lt_x0).trans c1_x0; have g10_2_x0 := (bb10.cell (p := ⟨w5.heap.size, 2, none⟩) lt_x0).trans c2_x0; have g10_0_a0 := (bb10.cell (p := ⟨W.heap.size, 0, none⟩) lt_a0).trans c0_a0; have g10_1_a0 := (bb10.cell (p := ⟨W.heap.size, 1, none⟩) lt_a0).trans c1_a0; have g10_2_a0 := (bb10.cell (p := ⟨W.heap.size, 2, none⟩) lt_a0).trans c2_a0))
  clear bw10
  have bw10 := bb10
  replace o_t2 : OwnV w10 w9.heap.size _ _ _ := o_t2
  replace O_w0 := Lib.hid (O_w0.out.below bw10)
  replace O_x0 := Lib.hid (O_x0.out.below bw10)
  replace O_g0 := Lib.hid (O_g0.out.below bw10)
  replace D_a0 := Lib.hid (D_a0.out.below bw10)
  replace D_w0 := Lib.hid (D_w0.out.below bw10)
  replace D_x0 := Lib.hid (D_x0.out.below bw10)
  replace D_g0 := Lib.hid (D_g0.out.below bw10)
  replace B := Lib.hid (B.out.trans (bw10.mono B.out.size))
  have z_w10 := Lib.hid bw10.size
  have O_t2 := Lib.hid o_t2
  have L_t2 := Lib.hid o_t2.lt
  clear o_t2
  clear bw10
  clear g10_0_x0 g10_1_x0 g10_2_x0
  clear g10_0_a0 g10_1_a0 g10_2_a0
  replace O_w0 := Lib.hid (O_w0.out.below bw11)
  replace O_x0 := Lib.hid (O_x0.out.below bw11)
  replace O_g0 := Lib.hid (O_g0.out.below bw11)
  replace O_t2 := Lib.hid (O_t2.out.below bw11)
  replace D_a0 := Lib.hid (D_a0.out.below bw11)
  replace D_w0 := Lib.hid (D_w0.out.below bw11)
  replace D_x0 := Lib.hid (D_x0.out.below bw11)
  replace D_g0 := Lib.hid (D_g0.out.below bw11)
  replace B := Lib.hid (B.out.trans (bw11.mono B.out.size))
  have z_w11 := Lib.hid bw11.size
  clear bw11
  clear g11_0_x0 g11_1_x0 g11_2_x0
  clear g11_0_a0 g11_1_a0 g11_2_a0
  clear bb10 bb11
  clear c0_x0 c1_x0 c2_x0 lt_x0
  clear c0_a0 c1_a0 c2_a0 lt_a0
  clear O_t2 L_t2
  have c0_x0 := D_x0.out.c0
  have c1_x0 := D_x0.out.c1
  have c2_x0 := D_x0.out.c2
  go_wp2_with fail
  clear c0_x0 c1_x0 c2_x0
  refine (mark_mat _ _ _ (1) _ (zs0) _ _ _ (by simp) O_x0.out (by skip; have := HC0.out; skip; omega) (by have := HN0.out; omega)).mono ?_
  rintro e w12 ⟨rfl, om, bk⟩
  replace O_w0 := Lib.hid (O_w0.out.kept bk (fun k hk hs => by have := L_w0.out k hk; have := L_x0.out k hs; have := zw.out; have := z_w1.out; have := z_w2.out; have := z_w3.out; have := z_w4.out; have := z_w5.out; have := z_w6.out; have := z_w7.out; have := z_w8.out; have := z_w9.out; have := z_w10.out; have := z_w11.out; omega))
  replace O_g0 := Lib.hid (O_g0.out.kept bk (fun k hk hs => by have := L_g0.out k hk; have := L_x0.out k hs; have := zw.out; have := z_w1.out; have := z_w2.out; have := z_w3.out; have := z_w4.out; have := z_w5.out; have := z_w6.out; have := z_w7.out; have := z_w8.out; have := z_w9.out; have := z_w10.out; have := z_w11.out; omega))
  replace D_a0 := Lib.hid (B3.keptK D_a0.out bk (fun hs => by have := L_x0.out _ hs; have := zw.out; have := z_w1.out; have := z_w2.out; have := z_w3.out; have := z_w4.out; have := z_w5.out; have := z_w6.out; have := z_w7.out; have := z_w8.out; have := z_w9.out; have := z_w10.out; have := z_w11.out; omega))
  replace D_w0 := Lib.hid (B3.keptK D_w0.out bk (fun hs => by have := L_x0.out _ hs; have := zw.out; have := z_w1.out; have := z_w2.out; have := z_w3.out; have := z_w4.out; have := z_w5.out; have := z_w6.out; have := z_w7.out; have := z_w8.out; have := z_w9.out; have := z_w10.out; have := z_w11.out; omega))
  replace D_x0 := Lib.hid (B3.keptK D_x0.out bk (fun hs => by have := L_x0.out _ hs; have := zw.out; have := z_w1.out; have := z_w2.out; have := z_w3.out; have := z_w4.out; have := z_w5.out; have := z_w6.out; have := z_w7.out; have := z_w8.out; have := z_w9.out; have := z_w10.out; have := z_w11.out; omega))
  replace D_g0 := Lib.hid (B3.keptK D_g0.out bk (fun hs => by have := L_x0.out _ hs; have := zw.out; have := z_w1.out; have := z_w2.out; have := z_w3.out; have := z_w4.out; have := z_w5.out; have := z_w6.out; have := z_w7.out; have := z_w8.out; have := z_w9.out; have := z_w10.out; have := z_w11.out; omega))
  replace B := Lib.hid (below_kept B.out bk B.out.size (fun k hk => by have := L_x0.out k hk; have := zw.out; have := z_w1.out; have := z_w2.out; have := z_w3.out; have := z_w4.out; have := z_w5.out; have := z_w6.out; have := z_w7.out; have := z_w8.out; have := z_w9.out; have := z_w10.out; have := z_w11.out; have := B.out.size; omega))
  have z_w12 := Lib.hid bk.size
  replace O_x0 := Lib.hid om
  clear om bk
  clear O_x0 L_x0
  have c0_g0 := D_g0.out.c0
  have c1_g0 := D_g0.out.c1
  have c2_g0 := D_g0.out.c2
  have c0_w0 := D_w0.out.c0
  have c1_w0 := D_w0.out.c1
  have c2_w0 := D_w0.out.c2
  go_wp2_with fail
  clear c0_g0 c1_g0 c2_g0
  clear c0_w0 c1_w0 c2_w0
  refine (eq_mat _ _ _ _ _ _ O_g0.out.rats O_w0.out.rats HAN.out).mono ?_
  rintro e w13 ⟨rfl, bw13⟩
  replace O_w0 := Lib.hid (O_w0.out.below bw13)
  replace O_g0 := Lib.hid (O_g0.out.below bw13)
  replace D_a0 := Lib.hid (D_a0.out.below bw13)
  replace D_w0 := Lib.hid (D_w0.out.below bw13)
  replace D_x0 := Lib.hid (D_x0.out.below bw13)
  replace D_g0 := Lib.hid (D_g0.out.below bw13)
  replace B := Lib.hid (B.out.trans (bw13.mono B.out.size))
  have z_w13 := Lib.hid bw13.size
  clear bw13
  have c0_g0 := D_g0.out.c0
  have c1_g0 := D_g0.out.c1
  have c2_g0 := D_g0.out.c2
  go_wp2_with fail
  clear c0_g0 c1_g0 c2_g0
  refine (mark_mat _ _ _ (1) _ (ZL) _ _ _ (by simp) O_g0.out (by have := HA.out; have := HC0.out; skip; omega) (by have := HAN.out; omega)).mono ?_
  rintro e w14 ⟨rfl, om, bk⟩
  replace O_w0 := Lib.hid (O_w0.out.kept bk (fun k hk hs => by have := L_w0.out k hk; have := L_g0.out k hs; have := zw.out; have := z_w1.out; have := z_w2.out; have := z_w3.out; have := z_w4.out; have := z_w5.out; have := z_w6.out; have := z_w7.out; have := z_w8.out; have := z_w9.out; have := z_w10.out; have := z_w11.out; have := z_w12.out; have := z_w13.out; omega))
  replace D_a0 := Lib.hid (B3.keptK D_a0.out bk (fun hs => by have := L_g0.out _ hs; have := zw.out; have := z_w1.out; have := z_w2.out; have := z_w3.out; have := z_w4.out; have := z_w5.out; have := z_w6.out; have := z_w7.out; have := z_w8.out; have := z_w9.out; have := z_w10.out; have := z_w11.out; have := z_w12.out; have := z_w13.out; omega))
  replace D_w0 := Lib.hid (B3.keptK D_w0.out bk (fun hs => by have := L_g0.out _ hs; have := zw.out; have := z_w1.out; have := z_w2.out; have := z_w3.out; have := z_w4.out; have := z_w5.out; have := z_w6.out; have := z_w7.out; have := z_w8.out; have := z_w9.out; have := z_w10.out; have := z_w11.out; have := z_w12.out; have := z_w13.out; omega))
  replace D_x0 := Lib.hid (B3.keptK D_x0.out bk (fun hs => by have := L_g0.out _ hs; have := zw.out; have := z_w1.out; have := z_w2.out; have := z_w3.out; have := z_w4.out; have := z_w5.out; have := z_w6.out; have := z_w7.out; have := z_w8.out; have := z_w9.out; have := z_w10.out; have := z_w11.out; have := z_w12.out; have := z_w13.out; omega))
  replace D_g0 := Lib.hid (B3.keptK D_g0.out bk (fun hs => by have := L_g0.out _ hs; have := zw.out; have := z_w1.out; have := z_w2.out; have := z_w3.out; have := z_w4.out; have := z_w5.out; have := z_w6.out; have := z_w7.out; have := z_w8.out; have := z_w9.out; have := z_w10.out; have := z_w11.out; have := z_w12.out; have := z_w13.out; omega))
  replace B := Lib.hid (below_kept B.out bk B.out.size (fun k hk => by have := L_g0.out k hk; have := zw.out; have := z_w1.out; have := z_w2.out; have := z_w3.out; have := z_w4.out; have := z_w5.out; have := z_w6.out; have := z_w7.out; have := z_w8.out; have := z_w9.out; have := z_w10.out; have := z_w11.out; have := z_w12.out; have := z_w13.out; have := B.out.size; omega))
  have z_w14 := Lib.hid bk.size
  replace O_g0 := Lib.hid om
  clear om bk
  have c0_g0 := D_g0.out.c0
  have c1_g0 := D_g0.out.c1
  have c2_g0 := D_g0.out.c2
  go_wp2_with fail
  clear c0_g0 c1_g0 c2_g0
  refine (held_mat _ _ _ (1) _ ZL _ (by simp) O_g0.out.rats (by have := HA.out; omega)).mono ?_
  rintro e w15 ⟨rfl, bw15⟩
  replace O_w0 := Lib.hid (O_w0.out.below bw15)
  replace O_g0 := Lib.hid (O_g0.out.below bw15)
  replace D_a0 := Lib.hid (D_a0.out.below bw15)
  replace D_w0 := Lib.hid (D_w0.out.below bw15)
  replace D_x0 := Lib.hid (D_x0.out.below bw15)
  replace D_g0 := Lib.hid (D_g0.out.below bw15)
  replace B := Lib.hid (B.out.trans (bw15.mono B.out.size))
  have z_w15 := Lib.hid bw15.size
  clear bw15
  have c0_a0 := D_a0.out.c0
  have c1_a0 := D_a0.out.c1
  have c2_a0 := D_a0.out.c2
  go_wp2_with fail
  clear c0_a0 c1_a0 c2_a0
  refine (to_mat r0 q0 _ zs0 _ (R0.out.below B.out) HN0.out HL0.out).mono ?_
  rintro e w16 ⟨v_t3, x_t3, rfl, o_t3, bw16⟩
  obtain ⟨a_t3, c_t3, rfl⟩ := o_t3.slice
  replace O_w0 := Lib.hid (O_w0.out.below bw16)
  replace O_g0 := Lib.hid (O_g0.out.below bw16)
  replace D_a0 := Lib.hid (D_a0.out.below bw16)
  replace D_w0 := Lib.hid (D_w0.out.below bw16)
  replace D_x0 := Lib.hid (D_x0.out.below bw16)
  replace D_g0 := Lib.hid (D_g0.out.below bw16)
  replace B := Lib.hid (B.out.trans (bw16.mono B.out.size))
  have z_w16 := Lib.hid bw16.size
  have O_t3 := Lib.hid o_t3
  have L_t3 := Lib.hid o_t3.lt
  clear o_t3
  clear bw16
  go_wp2_with fail
  have hc9 := impl_tpL r0 q0 _ zs0 w16 O_t3.out.rats
  rw [← HZL.out, ← HZR.out, ← HZC.out] at hc9
  refine (hc9).mono ?_
  rintro e w17 ⟨v_h0, x_h0, rfl, o_h0, bw17⟩
  obtain ⟨a_h0, c_h0, rfl⟩ := o_h0.slice
  replace O_w0 := Lib.hid (O_w0.out.below bw17)
  replace O_g0 := Lib.hid (O_g0.out.below bw17)
  replace O_t3 := Lib.hid (O_t3.out.below bw17)
  replace D_a0 := Lib.hid (D_a0.out.below bw17)
  replace D_w0 := Lib.hid (D_w0.out.below bw17)
  replace D_x0 := Lib.hid (D_x0.out.below bw17)
  replace D_g0 := Lib.hid (D_g0.out.below bw17)
  replace B := Lib.hid (B.out.trans (bw17.mono B.out.size))
  have z_w17 := Lib.hid bw17.size
  have O_h0 := Lib.hid o_h0
  have L_h0 := Lib.hid o_h0.lt
  clear o_h0
  clear bw17
  clear O_t3 L_t3
  have c0_w0 := D_w0.out.c0
  have c1_w0 := D_w0.out.c1
  have c2_w0 := D_w0.out.c2
  have lt_w0 := D_w0.out.lt
  have hz := B.out.size
  go_wp2_with fail
  clear c0_w0 c1_w0 c2_w0 lt_w0
  clear hz
  obtain ⟨w18, hW0⟩ : ∃ x, x = w17.alloc (.cells #[.int .i64 ZR, .int .i64 ZC, .slice a_h0 ZL.length c_h0] 25) := ⟨_, rfl⟩
  replace O_w0 := Lib.hid (show OwnV w18 _ _ _ _ by rw [hW0]; exact O_w0.out.alloc _)
  replace O_g0 := Lib.hid (show OwnV w18 _ _ _ _ by rw [hW0]; exact O_g0.out.alloc _)
  replace O_h0 := Lib.hid (show OwnV w18 _ _ _ _ by rw [hW0]; exact O_h0.out.alloc _)
  replace D_a0 := Lib.hid (show B3 w18 _ _ _ _ _ by rw [hW0]; exact D_a0.out.alloc _)
  replace D_w0 := Lib.hid (show B3 w18 _ _ _ _ _ by rw [hW0]; exact D_w0.out.alloc _)
  replace D_x0 := Lib.hid (show B3 w18 _ _ _ _ _ by rw [hW0]; exact D_x0.out.alloc _)
  replace D_g0 := Lib.hid (show B3 w18 _ _ _ _ _ by rw [hW0]; exact D_g0.out.alloc _)
  have D_h0 := Lib.hid (show B3 w18 w17.heap.size 25 (.int .i64 ZR) (.int .i64 ZC) (.slice a_h0 ZL.length c_h0) by rw [hW0]; exact B3.new _ _ _ _ _)
  replace B := Lib.hid (show Below W.heap.size W w18 by rw [hW0]; exact B.out.alloc B.out.size _)
  have z_w18 := Lib.hid (show w18.heap.size = w17.heap.size + 1 by rw [hW0]; simp)
  rw [← hW0]
  clear hW0
  refine (eq_mat _ _ _ _ _ _ O_h0.out.rats O_w0.out.rats HAN.out).mono ?_
  rintro e w19 ⟨rfl, bw19⟩
  replace O_w0 := Lib.hid (O_w0.out.below bw19)
  replace O_g0 := Lib.hid (O_g0.out.below bw19)
  replace O_h0 := Lib.hid (O_h0.out.below bw19)
  replace D_a0 := Lib.hid (D_a0.out.below bw19)
  replace D_w0 := Lib.hid (D_w0.out.below bw19)
  replace D_x0 := Lib.hid (D_x0.out.below bw19)
  replace D_g0 := Lib.hid (D_g0.out.below bw19)
  replace D_h0 := Lib.hid (D_h0.out.below bw19)
  replace B := Lib.hid (B.out.trans (bw19.mono B.out.size))
  have z_w19 := Lib.hid bw19.size
  clear bw19
  have c0_g0 := D_g0.out.c0
  have c1_g0 := D_g0.out.c1
  have c2_g0 := D_g0.out.c2
  go_wp2_with fail
  clear c0_g0 c1_g0 c2_g0
  refine (held_mat _ _ _ (1) _ ZL _ (by simp) O_g0.out.rats (by have := HA.out; omega)).mono ?_
  rintro e w20 ⟨rfl, bw20⟩
  replace O_w0 := Lib.hid (O_w0.out.below bw20)
  replace O_g0 := Lib.hid (O_g0.out.below bw20)
  replace O_h0 := Lib.hid (O_h0.out.below bw20)
  replace D_a0 := Lib.hid (D_a0.out.below bw20)
  replace D_w0 := Lib.hid (D_w0.out.below bw20)
  replace D_x0 := Lib.hid (D_x0.out.below bw20)
  replace D_g0 := Lib.hid (D_g0.out.below bw20)
  replace D_h0 := Lib.hid (D_h0.out.below bw20)
  replace B := Lib.hid (B.out.trans (bw20.mono B.out.size))
  have z_w20 := Lib.hid bw20.size
  clear bw20
  go_wp2
  go_ret
  exact ⟨rfl, B.out⟩


end Go.Proofs.Ytojklmckjebplaa
