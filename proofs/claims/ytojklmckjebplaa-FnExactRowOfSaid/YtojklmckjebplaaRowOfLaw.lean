/- The exact law of RowOf. -/
import Derived.Test.YtojklmckjebplaaMatIrow
import Derived.Test.YtojklmckjebplaaVecOk
import Derived.Test.YtojklmckjebplaaMatLens
import Derived.Test.YtojklmckjebplaaRatsIn
import Derived.Deep.CutBlock
import Derived.Deep.CutRange
import Derived.Deep.RegionHeld3
namespace Go.Proofs.Ytojklmckjebplaa
open Go.RowKit Go.WideShapes Go.ChangeShapes
set_option linter.unusedVariables false
set_option linter.unusedSimpArgs false
theorem rowL_len (r c : Int) (L : List Fr) (i : Int) : cntL (rowL ratOk r c L i) ≤ 100000 := by
  unfold rowL
  split
  · rename_i hb
    have hm : matB ratOk r c L = true := by unfold rowOk at hb; simp only [Bool.and_eq_true] at hb; exact hb.1
    obtain ⟨R, C, rfl, rfl, _, hC, _, _, hE⟩ := matB_parts hm
    refine cntM_le (by rw [List.length_take]; omega) (fun f hf => ?_)
    obtain ⟨j, hj, rfl⟩ := List.getElem_of_mem (List.mem_of_mem_drop (List.mem_of_mem_take hf))
    exact ok_lens (hE j hj)
  · exact cnt_nil
theorem spec_rowL (r c : Int) (v : Value) (L : List Fr) (i : Int) (w : World) (h : RatsAt w v L) (hi : -9223372036854775808 ≤ i ∧ i ≤ 9223372036854775807) :
    Calls Try.prog 40 #[.agg #[.int .i64 r, .int .i64 c, v], .int .i64 i] w fun e w' => ∃ u xs, e = .returned u ∧ OwnV w' w.heap.size u (rowL ratOk r c L i) xs ∧ Below w.heap.size w w' := spec_rowOf ratOk (fun b v zs d ds w h => spec_ratOk b v zs d ds w h) (fun f hf v d w h => spec_copyF f hf v d w h) r c i v L w h hi
theorem impl_rowL (r c : Int) (v : Value) (L : List Fr) (i : Int) (w : World) (h : RatsAt w v L) (hi : -9223372036854775808 ≤ i ∧ i ≤ 9223372036854775807) :
    Calls Try.prog 20 #[.agg #[.int .i64 r, .int .i64 c, v], .int .i64 i] w fun e w' => ∃ u xs, e = .returned u ∧ OwnV w' w.heap.size u (rowL ratOk r c L i) xs ∧ Below w.heap.size w w' := impl_rowOf ratOk (fun v L w h => impl_isV v L w h) (fun f hf v d w h => impl_cloneF f hf v d w h) r c i v L w h
set_option maxRecDepth 100000
set_option maxHeartbeats 4000000 in
theorem law_rowOf (W : World) (r0 q0 : Int) (v0 : Value) (zs0 : List Fr) (h0 : RatsAt W v0 zs0) (_ : True) (n1 : Int) (hn1 : (Lit.int .i64 n1).wf = true) :
    Calls Try.prog 8 #[.agg #[.int .i64 r0, .int .i64 q0, v0], .int .i64 n1] W fun e w' => e = .returned (.bool true) ∧ Below W.heap.size W w' := by
  have R0 := Lib.hid h0
  obtain ⟨a0, c0, rfl, g0, k0⟩ := ratsAt_form h0
  clear h0
  obtain ⟨m0, hm0'⟩ : ∃ n, zs0.length = n := ⟨_, rfl⟩
  rw [hm0'] at R0 g0 ⊢
  have N0 := Lib.hid hm0'
  clear hm0'
  have hx1 : -9223372036854775808 ≤ n1 ∧ n1 ≤ 9223372036854775807 := by simpa [Lit.wf, IntKind.min, IntKind.max, IntKind.signed, IntKind.bits] using hn1
  have HX1 := Lib.hid hx1
  clear hx1 hn1
  by_cases hs0 : (zs0.length : Int) + szL zs0 ≤ 1048576
  rotate_left
  · go_enter Try.func8, Try.ntmps8
    go_wp2_with fail
    obtain ⟨W0, hW0⟩ : ∃ x, x = (W.alloc (.cells #[.int .i64 r0, .int .i64 q0, .slice a0 m0 c0] 47)) := ⟨_, rfl⟩
    have B := Lib.hid (show Below W.heap.size W W0 by rw [hW0]; exact ((Below.refl W.heap.size W).alloc (Nat.le_refl _) (.cells #[.int .i64 r0, .int .i64 q0, .slice a0 m0 c0] 47)))
    have D_a0 := Lib.hid (show B3 W0 W.heap.size 47 (.int .i64 r0) (.int .i64 q0) (.slice a0 m0 c0) by rw [hW0]; exact b3_at (B3.new _ _ _ _ _) (by simp))
    have zw := Lib.hid (show W0.heap.size = W.heap.size + 1 by rw [hW0]; simp)
    rw [← hW0]
    clear hW0
    refine (sz_mat_no r0 q0 _ zs0 (1048576) _ (R0.out.below B.out) (by omega) (by omega)).mono ?_
    rintro e w1 ⟨rfl, bw1⟩
    replace D_a0 := Lib.hid (D_a0.out.below bw1)
    replace B := Lib.hid (B.out.trans (bw1.mono B.out.size))
    have z_w1 := Lib.hid bw1.size
    clear bw1
    go_wp2
    go_ret
    exact ⟨rfl, B.out⟩
  have HL0 := Lib.hid (show ∀ f ∈ zs0, f.mag.length ≤ 1099511627776 ∧ f.den.length ≤ 1099511627776 from fun f hf => by have := szL_mem hf; omega)
  have HN0 := Lib.hid (show zs0.length ≤ 1048576 by omega)
  have HC0 := Lib.hid (show cntL zs0 ≤ 1048576 by unfold cntL; omega)
  have hLEN := rowL_len r0 q0 zs0 n1
  obtain ⟨ZL, hZL⟩ : ∃ x, x = rowL ratOk r0 q0 zs0 n1 := ⟨_, rfl⟩
  have HZL := Lib.hid hZL
  rw [← hZL] at hLEN
  have HA := Lib.hid (show cntL ZL ≤ 100000 from hLEN)
  have HAN := Lib.hid (show ZL.length ≤ 1048576 by have := HA.out; unfold cntL at this; omega)
  clear hLEN hZL
  go_enter Try.func8, Try.ntmps8
  go_wp2_with fail
  obtain ⟨W0, hW0⟩ : ∃ x, x = (W.alloc (.cells #[.int .i64 r0, .int .i64 q0, .slice a0 m0 c0] 47)) := ⟨_, rfl⟩
  have B := Lib.hid (show Below W.heap.size W W0 by rw [hW0]; exact ((Below.refl W.heap.size W).alloc (Nat.le_refl _) (.cells #[.int .i64 r0, .int .i64 q0, .slice a0 m0 c0] 47)))
  have D_a0 := Lib.hid (show B3 W0 W.heap.size 47 (.int .i64 r0) (.int .i64 q0) (.slice a0 m0 c0) by rw [hW0]; exact b3_at (B3.new _ _ _ _ _) (by simp))
  have zw := Lib.hid (show W0.heap.size = W.heap.size + 1 by rw [hW0]; simp)
  rw [← hW0]
  clear hW0
  refine (sz_mat_yes r0 q0 _ zs0 (1048576) _ (R0.out.below B.out) (by omega) (by omega)).mono ?_
  rintro e w1 ⟨rfl, bw1⟩
  replace D_a0 := Lib.hid (D_a0.out.below bw1)
  replace B := Lib.hid (B.out.trans (bw1.mono B.out.size))
  have z_w1 := Lib.hid bw1.size
  clear bw1
  have c0_a0 := D_a0.out.c0
  have c1_a0 := D_a0.out.c1
  have c2_a0 := D_a0.out.c2
  go_wp2_with fail
  clear c0_a0 c1_a0 c2_a0
  refine (to_mat r0 q0 _ zs0 _ (R0.out.below B.out) HN0.out HL0.out).mono ?_
  rintro e w2 ⟨v_t1, x_t1, rfl, o_t1, bw2⟩
  obtain ⟨a_t1, c_t1, rfl⟩ := o_t1.slice
  replace D_a0 := Lib.hid (D_a0.out.below bw2)
  replace B := Lib.hid (B.out.trans (bw2.mono B.out.size))
  have z_w2 := Lib.hid bw2.size
  have O_t1 := Lib.hid o_t1
  have L_t1 := Lib.hid o_t1.lt
  clear o_t1
  clear bw2
  go_wp2_with fail
  have hc9 := spec_rowL r0 q0 _ zs0 n1 w2 O_t1.out.rats HX1.out
  rw [← HZL.out] at hc9
  refine (hc9).mono ?_
  rintro e w3 ⟨v_w0, x_w0, rfl, o_w0, bw3⟩
  replace O_t1 := Lib.hid (O_t1.out.below bw3)
  replace D_a0 := Lib.hid (D_a0.out.below bw3)
  replace B := Lib.hid (B.out.trans (bw3.mono B.out.size))
  have z_w3 := Lib.hid bw3.size
  have O_w0 := Lib.hid o_w0
  have L_w0 := Lib.hid o_w0.lt
  clear o_w0
  clear bw3
  clear O_t1 L_t1
  have c0_a0 := D_a0.out.c0
  have c1_a0 := D_a0.out.c1
  have c2_a0 := D_a0.out.c2
  go_wp2_with fail
  clear c0_a0 c1_a0 c2_a0
  refine (to_mat r0 q0 _ zs0 _ (R0.out.below B.out) HN0.out HL0.out).mono ?_
  rintro e w4 ⟨v_x0, x_x0, rfl, o_x0, bw4⟩
  obtain ⟨a_x0, c_x0, rfl⟩ := o_x0.slice
  replace O_w0 := Lib.hid (O_w0.out.below bw4)
  replace D_a0 := Lib.hid (D_a0.out.below bw4)
  replace B := Lib.hid (B.out.trans (bw4.mono B.out.size))
  have z_w4 := Lib.hid bw4.size
  have O_x0 := Lib.hid o_x0
  have L_x0 := Lib.hid o_x0.lt
  clear o_x0
  clear bw4
  have hz := B.out.size
  go_wp2_with fail
  clear hz
  obtain ⟨w5, hW0⟩ : ∃ x, x = w4.alloc (.cells #[.int .i64 r0, .int .i64 q0, .slice a_x0 zs0.length c_x0] 25) := ⟨_, rfl⟩
  replace O_w0 := Lib.hid (show OwnV w5 _ _ _ _ by rw [hW0]; exact O_w0.out.alloc _)
  replace O_x0 := Lib.hid (show OwnV w5 _ _ _ _ by rw [hW0]; exact O_x0.out.alloc _)
  replace D_a0 := Lib.hid (show B3 w5 _ _ _ _ _ by rw [hW0]; exact D_a0.out.alloc _)
  have D_x0 := Lib.hid (show B3 w5 w4.heap.size 25 (.int .i64 r0) (.int .i64 q0) (.slice a_x0 zs0.length c_x0) by rw [hW0]; exact B3.new _ _ _ _ _)
  replace B := Lib.hid (show Below W.heap.size W w5 by rw [hW0]; exact B.out.alloc B.out.size _)
  have z_w5 := Lib.hid (show w5.heap.size = w4.heap.size + 1 by rw [hW0]; simp)
  rw [← hW0]
  clear hW0
  have hc9 := impl_rowL r0 q0 _ zs0 n1 w5 O_x0.out.rats HX1.out
  rw [← HZL.out] at hc9
  refine (hc9).mono ?_
  rintro e w6 ⟨v_g0, x_g0, rfl, o_g0, bw6⟩
  replace O_w0 := Lib.hid (O_w0.out.below bw6)
  replace O_x0 := Lib.hid (O_x0.out.below bw6)
  replace D_a0 := Lib.hid (D_a0.out.below bw6)
  replace D_x0 := Lib.hid (D_x0.out.below bw6)
  replace B := Lib.hid (B.out.trans (bw6.mono B.out.size))
  have z_w6 := Lib.hid bw6.size
  have O_g0 := Lib.hid o_g0
  have L_g0 := Lib.hid o_g0.lt
  clear o_g0
  clear bw6
  go_wp2_with fail
  refine (eq_ratv _ _ _ _ O_g0.out.rats O_w0.out.rats HAN.out).mono ?_
  rintro e w7 ⟨rfl, bw7⟩
  replace O_w0 := Lib.hid (O_w0.out.below bw7)
  replace O_x0 := Lib.hid (O_x0.out.below bw7)
  replace O_g0 := Lib.hid (O_g0.out.below bw7)
  replace D_a0 := Lib.hid (D_a0.out.below bw7)
  replace D_x0 := Lib.hid (D_x0.out.below bw7)
  replace B := Lib.hid (B.out.trans (bw7.mono B.out.size))
  have z_w7 := Lib.hid bw7.size
  clear bw7
  go_wp2_with fail
  have c0_x0 := D_x0.out.c0
  have c1_x0 := D_x0.out.c1
  have c2_x0 := D_x0.out.c2
  have lt_x0 := D_x0.out.lt
  have c0_a0 := D_a0.out.c0
  have c1_a0 := D_a0.out.c1
  have c2_a0 := D_a0.out.c2
  have lt_a0 := D_a0.out.lt
  go_region_held3 (fun w' => w'.cell? ⟨w4.heap.size, 0, none⟩ = some (.int .i64 r0) ∧ w'.cell? ⟨w4.heap.size, 1, none⟩ = some (.int .i64 q0) ∧ w'.cell? ⟨w4.heap.size, 2, none⟩ = some (.slice a_x0 zs0.length c_x0) ∧ w'.cell? ⟨W.heap.size, 0, none⟩ = some (.int .i64 r0) ∧ w'.cell? ⟨W.heap.size, 1, none⟩ = some (.int .i64 q0) ∧ w'.cell? ⟨W.heap.size, 2, none⟩ = some (.slice a0 m0 c0)) (first | exact ⟨g9_0_x0, g9_1_x0, g9_2_x0, g9_0_a0, g9_1_a0, g9_2_a0⟩ | exact ⟨g8_0_x0, g8_1_x0, g8_2_x0, g8_0_a0, g8_1_a0, g8_2_a0⟩ | exact ⟨c0_x0, c1_x0, c2_x0, c0_a0, c1_a0, c2_a0⟩)
    (first
      | (have := bb8; go_at_call 26; refine (eq_mat _ _ _ _ _ _ (O_x0.out.rats.below bb8) o_t2.rats HN0.out).mono ?_; rintro e w9 ⟨rfl, bw9⟩; have bb9 : Below w7.heap.size w7 w9 := bb8.trans (bw9.mono bb8.size); have g9_0_x0 := (bb9.cell (p := ⟨w4.heap.size, 0, none⟩) lt_x0).trans c0_x0; have g9_1_x0 := (bb9.cell (p := ⟨w4.heap.size, 1, none⟩) lt_x0).trans c1_x0; have g9_2_x0 := (bb9.cell (p := ⟨w4.heap.size, 2, none⟩) lt_x0).trans c2_x0; have g9_0_a0 := (bb9.cell (p := ⟨W.heap.size, 0, none⟩) lt_a0).trans c0_a0; have g9_1_a0 := (bb9.cell (p := ⟨W.heap.size, 1, none⟩) lt_a0).trans c1_a0; have g9_2_a0 := (bb9.cell (p := ⟨W.heap.size, 2, none⟩) lt_a0).trans c2_a0)
      | (go_at_call 25; refine (to_mat r0 q0 _ zs0 _ (R0.out.below (B.out.trans (Below.mono (by first | exact Below.refl _ _ | exact (Below.refl _ _).drew) B.out.size))) HN0.out HL0.out).mono ?_; rintro e w8 ⟨v_t2, x_t2, rfl, o_t2, bw8⟩; obtain ⟨a_t2, c_t2, rfl⟩ := o_t2.slice; have bb8 : Below w7.heap.size w7 w8 := (by first | exact bw8 | exact ((Below.refl _ _).drew).trans bw8); have g8_0_x0 := (bb8.cell (p := ⟨w4.heap.size, 0, none⟩) lt_x0).trans c0_x0; have g8_1_x0 := (bb8.cell (p := ⟨w4.heap.size, 1, none⟩) lt_x0).trans c1_x0; have g8_2_x0 := (bb8.cell (p := ⟨w4.heap.size, 2, none⟩) lt_x0).trans c2_x0; have g8_0_a0 := (bb8.cell (p := ⟨W.heap.size, 0, none⟩) lt_a0).trans c0_a0; have g8_1_a0 := (bb8.cell (p := ⟨W.heap.size, 1, none⟩) lt_a0).trans c1_a0; have g8_2_a0 := (bb8.cell (p := ⟨W.heap.size, 2, none⟩) lt_a0).trans c2_a0))
  clear bw8
  have bw8 := bb8
  replace o_t2 : OwnV w8 w7.heap.size _ _ _ := o_t2
  replace O_w0 := Lib.hid (O_w0.out.below bw8)
  replace O_x0 := Lib.hid (O_x0.out.below bw8)
  replace O_g0 := Lib.hid (O_g0.out.below bw8)
  replace D_a0 := Lib.hid (D_a0.out.below bw8)
  replace D_x0 := Lib.hid (D_x0.out.below bw8)
  replace B := Lib.hid (B.out.trans (bw8.mono B.out.size))
  have z_w8 := Lib.hid bw8.size
  have O_t2 := Lib.hid o_t2
  have L_t2 := Lib.hid o_t2.lt
  clear o_t2
  clear bw8
  clear g8_0_x0 g8_1_x0 g8_2_x0
  clear g8_0_a0 g8_1_a0 g8_2_a0
  replace O_w0 := Lib.hid (O_w0.out.below bw9)
  replace O_x0 := Lib.hid (O_x0.out.below bw9)
  replace O_g0 := Lib.hid (O_g0.out.below bw9)
  replace O_t2 := Lib.hid (O_t2.out.below bw9)
  replace D_a0 := Lib.hid (D_a0.out.below bw9)
  replace D_x0 := Lib.hid (D_x0.out.below bw9)
  replace B := Lib.hid (B.out.trans (bw9.mono B.out.size))
  have z_w9 := Lib.hid bw9.size
  clear bw9
  clear g9_0_x0 g9_1_x0 g9_2_x0
  clear g9_0_a0 g9_1_a0 g9_2_a0
  clear bb8 bb9
  clear c0_x0 c1_x0 c2_x0 lt_x0
  clear c0_a0 c1_a0 c2_a0 lt_a0
  clear O_t2 L_t2
  have c0_x0 := D_x0.out.c0
  have c1_x0 := D_x0.out.c1
  have c2_x0 := D_x0.out.c2
  go_wp2_with fail
  clear c0_x0 c1_x0 c2_x0
  refine (mark_mat _ _ _ (1) _ (zs0) _ _ _ (by simp) O_x0.out (by skip; have := HC0.out; skip; omega) (by have := HN0.out; omega)).mono ?_
  rintro e w10 ⟨rfl, om, bk⟩
  replace O_w0 := Lib.hid (O_w0.out.kept bk (fun k hk hs => by have := L_w0.out k hk; have := L_x0.out k hs; have := zw.out; have := z_w1.out; have := z_w2.out; have := z_w3.out; have := z_w4.out; have := z_w5.out; have := z_w6.out; have := z_w7.out; have := z_w8.out; have := z_w9.out; omega))
  replace O_g0 := Lib.hid (O_g0.out.kept bk (fun k hk hs => by have := L_g0.out k hk; have := L_x0.out k hs; have := zw.out; have := z_w1.out; have := z_w2.out; have := z_w3.out; have := z_w4.out; have := z_w5.out; have := z_w6.out; have := z_w7.out; have := z_w8.out; have := z_w9.out; omega))
  replace D_a0 := Lib.hid (B3.keptK D_a0.out bk (fun hs => by have := L_x0.out _ hs; have := zw.out; have := z_w1.out; have := z_w2.out; have := z_w3.out; have := z_w4.out; have := z_w5.out; have := z_w6.out; have := z_w7.out; have := z_w8.out; have := z_w9.out; omega))
  replace D_x0 := Lib.hid (B3.keptK D_x0.out bk (fun hs => by have := L_x0.out _ hs; have := zw.out; have := z_w1.out; have := z_w2.out; have := z_w3.out; have := z_w4.out; have := z_w5.out; have := z_w6.out; have := z_w7.out; have := z_w8.out; have := z_w9.out; omega))
  replace B := Lib.hid (below_kept B.out bk B.out.size (fun k hk => by have := L_x0.out k hk; have := zw.out; have := z_w1.out; have := z_w2.out; have := z_w3.out; have := z_w4.out; have := z_w5.out; have := z_w6.out; have := z_w7.out; have := z_w8.out; have := z_w9.out; have := B.out.size; omega))
  have z_w10 := Lib.hid bk.size
  replace O_x0 := Lib.hid om
  clear om bk
  clear O_x0 L_x0
  go_wp2_with fail
  refine (eq_ratv _ _ _ _ O_g0.out.rats O_w0.out.rats HAN.out).mono ?_
  rintro e w11 ⟨rfl, bw11⟩
  replace O_w0 := Lib.hid (O_w0.out.below bw11)
  replace O_g0 := Lib.hid (O_g0.out.below bw11)
  replace D_a0 := Lib.hid (D_a0.out.below bw11)
  replace D_x0 := Lib.hid (D_x0.out.below bw11)
  replace B := Lib.hid (B.out.trans (bw11.mono B.out.size))
  have z_w11 := Lib.hid bw11.size
  clear bw11
  go_wp2_with fail
  refine (mark_ratv _ (1) _ (ZL) _ _ _ (by simp) O_g0.out (by have := HA.out; have := HC0.out; skip; omega) (by have := HAN.out; omega)).mono ?_
  rintro e w12 ⟨rfl, om, bk⟩
  replace O_w0 := Lib.hid (O_w0.out.kept bk (fun k hk hs => by have := L_w0.out k hk; have := L_g0.out k hs; have := zw.out; have := z_w1.out; have := z_w2.out; have := z_w3.out; have := z_w4.out; have := z_w5.out; have := z_w6.out; have := z_w7.out; have := z_w8.out; have := z_w9.out; have := z_w10.out; have := z_w11.out; omega))
  replace D_a0 := Lib.hid (B3.keptK D_a0.out bk (fun hs => by have := L_g0.out _ hs; have := zw.out; have := z_w1.out; have := z_w2.out; have := z_w3.out; have := z_w4.out; have := z_w5.out; have := z_w6.out; have := z_w7.out; have := z_w8.out; have := z_w9.out; have := z_w10.out; have := z_w11.out; omega))
  replace D_x0 := Lib.hid (B3.keptK D_x0.out bk (fun hs => by have := L_g0.out _ hs; have := zw.out; have := z_w1.out; have := z_w2.out; have := z_w3.out; have := z_w4.out; have := z_w5.out; have := z_w6.out; have := z_w7.out; have := z_w8.out; have := z_w9.out; have := z_w10.out; have := z_w11.out; omega))
  replace B := Lib.hid (below_kept B.out bk B.out.size (fun k hk => by have := L_g0.out k hk; have := zw.out; have := z_w1.out; have := z_w2.out; have := z_w3.out; have := z_w4.out; have := z_w5.out; have := z_w6.out; have := z_w7.out; have := z_w8.out; have := z_w9.out; have := z_w10.out; have := z_w11.out; have := B.out.size; omega))
  have z_w12 := Lib.hid bk.size
  replace O_g0 := Lib.hid om
  clear om bk
  go_wp2_with fail
  refine (held_ratv _ (1) _ ZL _ (by simp) O_g0.out.rats (by have := HA.out; omega)).mono ?_
  rintro e w13 ⟨rfl, bw13⟩
  replace O_w0 := Lib.hid (O_w0.out.below bw13)
  replace O_g0 := Lib.hid (O_g0.out.below bw13)
  replace D_a0 := Lib.hid (D_a0.out.below bw13)
  replace D_x0 := Lib.hid (D_x0.out.below bw13)
  replace B := Lib.hid (B.out.trans (bw13.mono B.out.size))
  have z_w13 := Lib.hid bw13.size
  clear bw13
  have c0_a0 := D_a0.out.c0
  have c1_a0 := D_a0.out.c1
  have c2_a0 := D_a0.out.c2
  go_wp2_with fail
  clear c0_a0 c1_a0 c2_a0
  refine (to_mat r0 q0 _ zs0 _ (R0.out.below B.out) HN0.out HL0.out).mono ?_
  rintro e w14 ⟨v_t3, x_t3, rfl, o_t3, bw14⟩
  obtain ⟨a_t3, c_t3, rfl⟩ := o_t3.slice
  replace O_w0 := Lib.hid (O_w0.out.below bw14)
  replace O_g0 := Lib.hid (O_g0.out.below bw14)
  replace D_a0 := Lib.hid (D_a0.out.below bw14)
  replace D_x0 := Lib.hid (D_x0.out.below bw14)
  replace B := Lib.hid (B.out.trans (bw14.mono B.out.size))
  have z_w14 := Lib.hid bw14.size
  have O_t3 := Lib.hid o_t3
  have L_t3 := Lib.hid o_t3.lt
  clear o_t3
  clear bw14
  go_wp2_with fail
  have hc9 := impl_rowL r0 q0 _ zs0 n1 w14 O_t3.out.rats HX1.out
  rw [← HZL.out] at hc9
  refine (hc9).mono ?_
  rintro e w15 ⟨v_h0, x_h0, rfl, o_h0, bw15⟩
  replace O_w0 := Lib.hid (O_w0.out.below bw15)
  replace O_g0 := Lib.hid (O_g0.out.below bw15)
  replace O_t3 := Lib.hid (O_t3.out.below bw15)
  replace D_a0 := Lib.hid (D_a0.out.below bw15)
  replace D_x0 := Lib.hid (D_x0.out.below bw15)
  replace B := Lib.hid (B.out.trans (bw15.mono B.out.size))
  have z_w15 := Lib.hid bw15.size
  have O_h0 := Lib.hid o_h0
  have L_h0 := Lib.hid o_h0.lt
  clear o_h0
  clear bw15
  clear O_t3 L_t3
  go_wp2_with fail
  refine (eq_ratv _ _ _ _ O_h0.out.rats O_w0.out.rats HAN.out).mono ?_
  rintro e w16 ⟨rfl, bw16⟩
  replace O_w0 := Lib.hid (O_w0.out.below bw16)
  replace O_g0 := Lib.hid (O_g0.out.below bw16)
  replace O_h0 := Lib.hid (O_h0.out.below bw16)
  replace D_a0 := Lib.hid (D_a0.out.below bw16)
  replace D_x0 := Lib.hid (D_x0.out.below bw16)
  replace B := Lib.hid (B.out.trans (bw16.mono B.out.size))
  have z_w16 := Lib.hid bw16.size
  clear bw16
  go_wp2_with fail
  refine (held_ratv _ (1) _ ZL _ (by simp) O_g0.out.rats (by have := HA.out; omega)).mono ?_
  rintro e w17 ⟨rfl, bw17⟩
  replace O_w0 := Lib.hid (O_w0.out.below bw17)
  replace O_g0 := Lib.hid (O_g0.out.below bw17)
  replace O_h0 := Lib.hid (O_h0.out.below bw17)
  replace D_a0 := Lib.hid (D_a0.out.below bw17)
  replace D_x0 := Lib.hid (D_x0.out.below bw17)
  replace B := Lib.hid (B.out.trans (bw17.mono B.out.size))
  have z_w17 := Lib.hid bw17.size
  clear bw17
  go_wp2
  go_ret
  exact ⟨rfl, B.out⟩


end Go.Proofs.Ytojklmckjebplaa
