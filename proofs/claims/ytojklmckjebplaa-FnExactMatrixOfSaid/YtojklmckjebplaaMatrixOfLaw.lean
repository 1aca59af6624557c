/- The exact law of MatrixOf. -/
import Derived.Test.YtojklmckjebplaaMatIof
import Derived.Test.YtojklmckjebplaaRatInt
import Derived.Test.YtojklmckjebplaaMatLens
import Derived.Test.YtojklmckjebplaaRatsIn
import Derived.Deep.CutBlock
import Derived.Deep.CutRange
import Derived.Deep.RegionHeld3
namespace Go.Proofs.Ytojklmckjebplaa
open Go.RowKit Go.WideShapes Go.ChangeShapes
set_option linter.unusedVariables false
set_option linter.unusedSimpArgs false
def riF (i : Int) : Fr := ⟨ofB i, ofL i, oneL⟩
theorem riF_len (i : Int) (h : -9223372036854775808 ≤ i ∧ i ≤ 9223372036854775807) : (riF i).mag.length ≤ 60 ∧ (riF i).den.length ≤ 60 := by
  have h1 : nlen i.natAbs ≤ 3 := (nlen_le_iff _ _).2 (by rw [show pw 3 = 1000000000000000000000000000 from by decide]; omega)
  refine ⟨?_, by simp [riF, oneL]⟩
  show (limI i.natAbs).length ≤ 60
  rw [limI_length]; omega
theorem moL_len (r c : Int) (l : List Int) (h : ∀ k (hk : k < l.length), -9223372036854775808 ≤ l[k]'hk ∧ l[k]'hk ≤ 9223372036854775807) : cntL (moL riF r c l) ≤ 100000 := by
  unfold moL
  split
  · rename_i hb
    unfold moB at hb
    simp only [Bool.and_eq_true, decide_eq_true_eq] at hb
    have hd := dim_mul hb.1 hb.2.1
    refine cntM_le (by rw [List.length_map]; omega) (fun f hf => ?_)
    obtain ⟨i, hi, rfl⟩ := List.mem_map.1 hf
    obtain ⟨k, hk, rfl⟩ := List.getElem_of_mem hi
    exact riF_len _ (h k hk)
  · exact cnt_nil
theorem spec_matOfL (r c : Int) (v : Value) (l : List Int) (w : World) (hr : -9223372036854775808 ≤ r ∧ r ≤ 9223372036854775807) (hc : -9223372036854775808 ≤ c ∧ c ≤ 9223372036854775807) (h : RowOf iV w v l) (hl : ∀ k (hk : k < l.length), -9223372036854775808 ≤ l[k]'hk ∧ l[k]'hk ≤ 9223372036854775807) :
    Calls Try.prog 27 #[.int .i64 r, .int .i64 c, v] w fun e w' => ∃ u xs, e = .returned (.agg #[.int .i64 (moR r c l), .int .i64 (moC r c l), u]) ∧ OwnV w' w.heap.size u (moL riF r c l) xs ∧ Below w.heap.size w w' := spec_matrixOf riF (fun i w hi => spec_ratFromIntL i w hi) r c v l w h hr hc hl
theorem impl_matOfL (r c : Int) (v : Value) (l : List Int) (w : World) (hr : -9223372036854775808 ≤ r ∧ r ≤ 9223372036854775807) (hc : -9223372036854775808 ≤ c ∧ c ≤ 9223372036854775807) (h : RowOf iV w v l) (hl : ∀ k (hk : k < l.length), -9223372036854775808 ≤ l[k]'hk ∧ l[k]'hk ≤ 9223372036854775807) :
    Calls Try.prog 29 #[.int .i64 r, .int .i64 c, v] w fun e w' => ∃ u xs, e = .returned (.agg #[.int .i64 (moR r c l), .int .i64 (moC r c l), u]) ∧ OwnV w' w.heap.size u (moL riF r c l) xs ∧ Below w.heap.size w w' := impl_matrixOf riF (fun i w hi => impl_ratFromIntL i w hi) r c v l w h hr hc hl
set_option maxRecDepth 100000
set_option maxHeartbeats 4000000 in
theorem law_matrixOf (W : World) (n0 : Int) (hn0 : (Lit.int .i64 n0).wf = true) (n1 : Int) (hn1 : (Lit.int .i64 n1).wf = true) (v2 : Value) (zs2 : List Int) (h2 : RowOf iV W v2 zs2) (rg2 : ∀ k (hk : k < zs2.length), -9223372036854775808 ≤ zs2[k]'hk ∧ zs2[k]'hk ≤ 9223372036854775807) :
    Calls Try.prog 5 #[.int .i64 n0, .int .i64 n1, v2] W fun e w' => e = .returned (.bool true) ∧ Below W.heap.size W w' := by
  have hx0 : -9223372036854775808 ≤ n0 ∧ n0 ≤ 9223372036854775807 := by simpa [Lit.wf, IntKind.min, IntKind.max, IntKind.signed, IntKind.bits] using hn0
  have HX0 := Lib.hid hx0
  clear hx0 hn0
  have hx1 : -9223372036854775808 ≤ n1 ∧ n1 ≤ 9223372036854775807 := by simpa [Lit.wf, IntKind.min, IntKind.max, IntKind.signed, IntKind.bits] using hn1
  have HX1 := Lib.hid hx1
  clear hx1 hn1
  have RG2 := Lib.hid rg2
  clear rg2
  have R2 := Lib.hid h2
  obtain ⟨a2, c2, rfl, hc2, hm2, hr2⟩ := h2
  clear hr2
  unfold maxLen at hm2
  obtain ⟨m2, hm2'⟩ : ∃ n, zs2.length = n := ⟨_, rfl⟩
  rw [hm2'] at hc2 R2 ⊢
  have N2 := Lib.hid hm2'
  clear hm2'
  by_cases hl0 : m2 ≤ 1048576
  rotate_left
  · have hgt : decide ((1048576 : Int) < (m2 : Int)) = true := by simp; omega
    go_enter Try.func5, Try.ntmps5
    go_wp2
    go_ret
    exact ⟨rfl, Below.refl _ _⟩
  have hgt : decide ((1048576 : Int) < (m2 : Int)) = false := by simp; omega
  have hLEN := moL_len n0 n1 zs2 RG2.out
  obtain ⟨ZL, hZL⟩ : ∃ x, x = moL riF n0 n1 zs2 := ⟨_, rfl⟩
  have HZL := Lib.hid hZL
  rw [← hZL] at hLEN
  have HA := Lib.hid (show cntL ZL ≤ 100000 from hLEN)
  have HAN := Lib.hid (show ZL.length ≤ 1048576 by have := HA.out; unfold cntL at this; omega)
  clear hLEN hZL
  obtain ⟨ZR, hZR⟩ : ∃ x, x = moR n0 n1 zs2 := ⟨_, rfl⟩
  have HZR := Lib.hid hZR
  obtain ⟨ZC, hZC⟩ : ∃ x, x = moC n0 n1 zs2 := ⟨_, rfl⟩
  have HZC := Lib.hid hZC
  clear hZR hZC
  go_enter Try.func5, Try.ntmps5
  go_wp2_with fail
  refine (to_ints _ zs2 _ (rowOf_below R2.out (Below.refl _ _)) (by rw [N2.out]; omega)).mono ?_
  rintro e w1 ⟨v_t1, rfl, o_t1, bw1⟩
  obtain ⟨a_t1, c_t1, rfl⟩ := o_t1.slice
  have B := Lib.hid bw1
  have z_w1 := Lib.hid bw1.size
  have O_t1 := Lib.hid o_t1
  have L_t1 := Lib.hid o_t1.lt
  clear o_t1
  clear bw1
  go_wp2_with fail
  have hc9 := spec_matOfL n0 n1 _ zs2 w1 HX0.out HX1.out O_t1.out.row RG2.out
  rw [← HZL.out, ← HZR.out, ← HZC.out] at hc9
  refine (hc9).mono ?_
  rintro e w2 ⟨v_w0, x_w0, rfl, o_w0, bw2⟩
  obtain ⟨a_w0, c_w0, rfl⟩ := o_w0.slice
  replace O_t1 := Lib.hid (O_t1.out.below bw2)
  replace B := Lib.hid (B.out.trans (bw2.mono B.out.size))
  have z_w2 := Lib.hid bw2.size
  have O_w0 := Lib.hid o_w0
  have L_w0 := Lib.hid o_w0.lt
  clear o_w0
  clear bw2
  clear O_t1 L_t1
  have hz := B.out.size
  go_wp2_with fail
  clear hz
  obtain ⟨w3, hW0⟩ : ∃ x, x = w2.alloc (.cells #[.int .i64 ZR, .int .i64 ZC, .slice a_w0 ZL.length c_w0] 25) := ⟨_, rfl⟩
  replace O_w0 := Lib.hid (show OwnV w3 _ _ _ _ by rw [hW0]; exact O_w0.out.alloc _)
  have D_w0 := Lib.hid (show B3 w3 w2.heap.size 25 (.int .i64 ZR) (.int .i64 ZC) (.slice a_w0 ZL.length c_w0) by rw [hW0]; exact B3.new _ _ _ _ _)
  replace B := Lib.hid (show Below W.heap.size W w3 by rw [hW0]; exact B.out.alloc B.out.size _)
  have z_w3 := Lib.hid (show w3.heap.size = w2.heap.size + 1 by rw [hW0]; simp)
  rw [← hW0]
  clear hW0
  refine (to_ints _ zs2 _ (rowOf_below R2.out B.out) (by rw [N2.out]; omega)).mono ?_
  rintro e w4 ⟨v_x2, rfl, o_x2, bw4⟩
  obtain ⟨a_x2, c_x2, rfl⟩ := o_x2.slice
  replace O_w0 := Lib.hid (O_w0.out.below bw4)
  replace D_w0 := Lib.hid (D_w0.out.below bw4)
  replace B := Lib.hid (B.out.trans (bw4.mono B.out.size))
  have z_w4 := Lib.hid bw4.size
  have O_x2 := Lib.hid o_x2
  have L_x2 := Lib.hid o_x2.lt
  clear o_x2
  clear bw4
  go_wp2_with fail
  have hc9 := impl_matOfL n0 n1 _ zs2 w4 HX0.out HX1.out O_x2.out.row RG2.out
  rw [← HZL.out, ← HZR.out, ← HZC.out] at hc9
  refine (hc9).mono ?_
  rintro e w5 ⟨v_g0, x_g0, rfl, o_g0, bw5⟩
  obtain ⟨a_g0, c_g0, rfl⟩ := o_g0.slice
  replace O_w0 := Lib.hid (O_w0.out.below bw5)
  replace O_x2 := Lib.hid (O_x2.out.below bw5)
  replace D_w0 := Lib.hid (D_w0.out.below bw5)
  replace B := Lib.hid (B.out.trans (bw5.mono B.out.size))
  have z_w5 := Lib.hid bw5.size
  have O_g0 := Lib.hid o_g0
  have L_g0 := Lib.hid o_g0.lt
  clear o_g0
  clear bw5
  have c0_w0 := D_w0.out.c0
  have c1_w0 := D_w0.out.c1
  have c2_w0 := D_w0.out.c2
  have lt_w0 := D_w0.out.lt
  have hz := B.out.size
  go_wp2_with fail
  clear c0_w0 c1_w0 c2_w0 lt_w0
  clear hz
  obtain ⟨w6, hW0⟩ : ∃ x, x = w5.alloc (.cells #[.int .i64 ZR, .int .i64 ZC, .slice a_g0 ZL.length c_g0] 25) := ⟨_, rfl⟩
  replace O_w0 := Lib.hid (show OwnV w6 _ _ _ _ by rw [hW0]; exact O_w0.out.alloc _)
  replace O_x2 := Lib.hid (show OwnI w6 _ _ _ by rw [hW0]; exact O_x2.out.alloc _)
  replace O_g0 := Lib.hid (show OwnV w6 _ _ _ _ by rw [hW0]; exact O_g0.out.alloc _)
  replace D_w0 := Lib.hid (show B3 w6 _ _ _ _ _ by rw [hW0]; exact D_w0.out.alloc _)
  have D_g0 := Lib.hid (show B3 w6 w5.heap.size 25 (.int .i64 ZR) (.int .i64 ZC) (.slice a_g0 ZL.length c_g0) by rw [hW0]; exact B3.new _ _ _ _ _)
  replace B := Lib.hid (show Below W.heap.size W w6 by rw [hW0]; exact B.out.alloc B.out.size _)
  have z_w6 := Lib.hid (show w6.heap.size = w5.heap.size + 1 by rw [hW0]; simp)
  rw [← hW0]
  clear hW0
  refine (eq_mat _ _ _ _ _ _ O_g0.out.rats O_w0.out.rats HAN.out).mono ?_
  rintro e w7 ⟨rfl, bw7⟩
  replace O_w0 := Lib.hid (O_w0.out.below bw7)
  replace O_x2 := Lib.hid (O_x2.out.below bw7)
  replace O_g0 := Lib.hid (O_g0.out.below bw7)
  replace D_w0 := Lib.hid (D_w0.out.below bw7)
  replace D_g0 := Lib.hid (D_g0.out.below bw7)
  replace B := Lib.hid (B.out.trans (bw7.mono B.out.size))
  have z_w7 := Lib.hid bw7.size
  clear bw7
  go_wp2_with fail
  refine (to_ints _ zs2 _ (rowOf_below R2.out B.out) (by rw [N2.out]; omega)).mono ?_
  rintro e w8 ⟨v_t2, rfl, o_t2, bw8⟩
  obtain ⟨a_t2, c_t2, rfl⟩ := o_t2.slice
  replace O_w0 := Lib.hid (O_w0.out.below bw8)
  replace O_x2 := Lib.hid (O_x2.out.below bw8)
  replace O_g0 := Lib.hid (O_g0.out.below bw8)
  replace D_w0 := Lib.hid (D_w0.out.below bw8)
  replace D_g0 := Lib.hid (D_g0.out.below bw8)
  replace B := Lib.hid (B.out.trans (bw8.mono B.out.size))
  have z_w8 := Lib.hid bw8.size
  have O_t2 := Lib.hid o_t2
  have L_t2 := Lib.hid o_t2.lt
  clear o_t2
  clear bw8
  go_wp2_with fail
  refine (eq_intsB _ _ _ _ O_x2.out.row O_t2.out.row).mono ?_
  rintro e w9 ⟨rfl, bw9⟩
  replace O_w0 := Lib.hid (O_w0.out.below bw9)
  replace O_x2 := Lib.hid (O_x2.out.below bw9)
  replace O_g0 := Lib.hid (O_g0.out.below bw9)
  replace O_t2 := Lib.hid (O_t2.out.below bw9)
  replace D_w0 := Lib.hid (D_w0.out.below bw9)
  replace D_g0 := Lib.hid (D_g0.out.below bw9)
  replace B := Lib.hid (B.out.trans (bw9.mono B.out.size))
  have z_w9 := Lib.hid bw9.size
  clear bw9
  clear O_t2 L_t2
  go_wp2_with fail
  refine (mark_ints _ (1) _ _ _ _ (by simp) O_x2.out (by rw [N2.out]; skip; omega)).mono ?_
  rintro e w10 ⟨rfl, om, gw⟩
  have bk := Kept.of_grown gw
  clear gw
  replace O_w0 := Lib.hid (O_w0.out.kept bk (fun k hk hs => by have := L_w0.out k hk; have := L_x2.out k hs; have := z_w1.out; have := z_w2.out; have := z_w3.out; have := z_w4.out; have := z_w5.out; have := z_w6.out; have := z_w7.out; have := z_w8.out; have := z_w9.out; omega))
  replace O_g0 := Lib.hid (O_g0.out.kept bk (fun k hk hs => by have := L_g0.out k hk; have := L_x2.out k hs; have := z_w1.out; have := z_w2.out; have := z_w3.out; have := z_w4.out; have := z_w5.out; have := z_w6.out; have := z_w7.out; have := z_w8.out; have := z_w9.out; omega))
  replace D_w0 := Lib.hid (B3.keptK D_w0.out bk (fun hs => by have := L_x2.out _ hs; have := z_w1.out; have := z_w2.out; have := z_w3.out; have := z_w4.out; have := z_w5.out; have := z_w6.out; have := z_w7.out; have := z_w8.out; have := z_w9.out; omega))
  replace D_g0 := Lib.hid (B3.keptK D_g0.out bk (fun hs => by have := L_x2.out _ hs; have := z_w1.out; have := z_w2.out; have := z_w3.out; have := z_w4.out; have := z_w5.out; have := z_w6.out; have := z_w7.out; have := z_w8.out; have := z_w9.out; omega))
  replace B := Lib.hid (below_kept B.out bk B.out.size (fun k hk => by have := L_x2.out k hk; have := z_w1.out; have := z_w2.out; have := z_w3.out; have := z_w4.out; have := z_w5.out; have := z_w6.out; have := z_w7.out; have := z_w8.out; have := z_w9.out; have := B.out.size; omega))
  have z_w10 := Lib.hid bk.size
  replace O_x2 := Lib.hid om
  clear om bk
  rw [N2.out]
  clear O_x2 L_x2
  have c0_g0 := D_g0.out.c0
  have c1_g0 := D_g0.out.c1
  have c2_g0 := D_g0.out.c2
  have c0_w0 := D_w0.out.c0
  have c1_w0 := D_w0.out.c1
  have c2_w0 := D_w0.out.c2
  go_wp2_with fail
  clear c0_g0 c1_g0 c2_g0
  clear c0_w0 c1_w0 c2_w0
  refine (eq_mat _ _ _ _ _ _ O_g0.out.rats O_w0.out.rats HAN.out).mono ?_
  rintro e w11 ⟨rfl, bw11⟩
  replace O_w0 := Lib.hid (O_w0.out.below bw11)
  replace O_g0 := Lib.hid (O_g0.out.below bw11)
  replace D_w0 := Lib.hid (D_w0.out.below bw11)
  replace D_g0 := Lib.hid (D_g0.out.below bw11)
  replace B := Lib.hid (B.out.trans (bw11.mono B.out.size))
  have z_w11 := Lib.hid bw11.size
  clear bw11
  have c0_g0 := D_g0.out.c0
  have c1_g0 := D_g0.out.c1
  have c2_g0 := D_g0.out.c2
  go_wp2_with fail
  clear c0_g0 c1_g0 c2_g0
  refine (mark_mat _ _ _ (1) _ (ZL) _ _ _ (by simp) O_g0.out (by have := HA.out; skip; omega) (by have := HAN.out; omega)).mono ?_
  rintro e w12 ⟨rfl, om, bk⟩
  replace O_w0 := Lib.hid (O_w0.out.kept bk (fun k hk hs => by have := L_w0.out k hk; have := L_g0.out k hs; have := z_w1.out; have := z_w2.out; have := z_w3.out; have := z_w4.out; have := z_w5.out; have := z_w6.out; have := z_w7.out; have := z_w8.out; have := z_w9.out; have := z_w10.out; have := z_w11.out; omega))
  replace D_w0 := Lib.hid (B3.keptK D_w0.out bk (fun hs => by have := L_g0.out _ hs; have := z_w1.out; have := z_w2.out; have := z_w3.out; have := z_w4.out; have := z_w5.out; have := z_w6.out; have := z_w7.out; have := z_w8.out; have := z_w9.out; have := z_w10.out; have := z_w11.out; omega))
  replace D_g0 := Lib.hid (B3.keptK D_g0.out bk (fun hs => by have := L_g0.out _ hs; have := z_w1.out; have := z_w2.out; have := z_w3.out; have := z_w4.out; have := z_w5.out; have := z_w6.out; have := z_w7.out; have := z_w8.out; have := z_w9.out; have := z_w10.out; have := z_w11.out; omega))
  replace B := Lib.hid (below_kept B.out bk B.out.size (fun k hk => by have := L_g0.out k hk; have := z_w1.out; have := z_w2.out; have := z_w3.out; have := z_w4.out; have := z_w5.out; have := z_w6.out; have := z_w7.out; have := z_w8.out; have := z_w9.out; have := z_w10.out; have := z_w11.out; have := B.out.size; omega))
  have z_w12 := Lib.hid bk.size
  replace O_g0 := Lib.hid om
  clear om bk
  have c0_g0 := D_g0.out.c0
  have c1_g0 := D_g0.out.c1
  have c2_g0 := D_g0.out.c2
  go_wp2_with fail
  clear c0_g0 c1_g0 c2_g0
  refine (held_mat _ _ _ (1) _ ZL _ (by simp) O_g0.out.rats (by have := HA.out; omega)).mono ?_
  rintro e w13 ⟨rfl, bw13⟩
  replace O_w0 := Lib.hid (O_w0.out.below bw13)
  replace O_g0 := Lib.hid (O_g0.out.below bw13)
  replace D_w0 := Lib.hid (D_w0.out.below bw13)
  replace D_g0 := Lib.hid (D_g0.out.below bw13)
  replace B := Lib.hid (B.out.trans (bw13.mono B.out.size))
  have z_w13 := Lib.hid bw13.size
  clear bw13
  go_wp2_with fail
  refine (to_ints _ zs2 _ (rowOf_below R2.out B.out) (by rw [N2.out]; omega)).mono ?_
  rintro e w14 ⟨v_t3, rfl, o_t3, bw14⟩
  obtain ⟨a_t3, c_t3, rfl⟩ := o_t3.slice
  replace O_w0 := Lib.hid (O_w0.out.below bw14)
  replace O_g0 := Lib.hid (O_g0.out.below bw14)
  replace D_w0 := Lib.hid (D_w0.out.below bw14)
  replace D_g0 := Lib.hid (D_g0.out.below bw14)
  replace B := Lib.hid (B.out.trans (bw14.mono B.out.size))
  have z_w14 := Lib.hid bw14.size
  have O_t3 := Lib.hid o_t3
  have L_t3 := Lib.hid o_t3.lt
  clear o_t3
  clear bw14
  go_wp2_with fail
  have hc9 := impl_matOfL n0 n1 _ zs2 w14 HX0.out HX1.out O_t3.out.row RG2.out
  rw [← HZL.out, ← HZR.out, ← HZC.out] at hc9
  refine (hc9).mono ?_
  rintro e w15 ⟨v_h0, x_h0, rfl, o_h0, bw15⟩
  obtain ⟨a_h0, c_h0, rfl⟩ := o_h0.slice
  replace O_w0 := Lib.hid (O_w0.out.below bw15)
  replace O_g0 := Lib.hid (O_g0.out.below bw15)
  replace O_t3 := Lib.hid (O_t3.out.below bw15)
  replace D_w0 := Lib.hid (D_w0.out.below bw15)
  replace D_g0 := Lib.hid (D_g0.out.below bw15)
  replace B := Lib.hid (B.out.trans (bw15.mono B.out.size))
  have z_w15 := Lib.hid bw15.size
  have O_h0 := Lib.hid o_h0
  have L_h0 := Lib.hid o_h0.lt
  clear o_h0
  clear bw15
  clear O_t3 L_t3
  have c0_w0 := D_w0.out.c0
  have c1_w0 := D_w0.out.c1
  have c2_w0 := D_w0.out.c2
  have lt_w0 := D_w0.out.lt
  have hz := B.out.size
  go_wp2_with fail
  clear c0_w0 c1_w0 c2_w0 lt_w0
  clear hz
  obtain ⟨w16, hW0⟩ : ∃ x, x = w15.alloc (.cells #[.int .i64 ZR, .int .i64 ZC, .slice a_h0 ZL.length c_h0] 25) := ⟨_, rfl⟩
  replace O_w0 := Lib.hid (show OwnV w16 _ _ _ _ by rw [hW0]; exact O_w0.out.alloc _)
  replace O_g0 := Lib.hid (show OwnV w16 _ _ _ _ by rw [hW0]; exact O_g0.out.alloc _)
  replace O_h0 := Lib.hid (show OwnV w16 _ _ _ _ by rw [hW0]; exact O_h0.out.alloc _)
  replace D_w0 := Lib.hid (show B3 w16 _ _ _ _ _ by rw [hW0]; exact D_w0.out.alloc _)
  replace D_g0 := Lib.hid (show B3 w16 _ _ _ _ _ by rw [hW0]; exact D_g0.out.alloc _)
  have D_h0 := Lib.hid (show B3 w16 w15.heap.size 25 (.int .i64 ZR) (.int .i64 ZC) (.slice a_h0 ZL.length c_h0) by rw [hW0]; exact B3.new _ _ _ _ _)
  replace B := Lib.hid (show Below W.heap.size W w16 by rw [hW0]; exact B.out.alloc B.out.size _)
  have z_w16 := Lib.hid (show w16.heap.size = w15.heap.size + 1 by rw [hW0]; simp)
  rw [← hW0]
  clear hW0
  refine (eq_mat _ _ _ _ _ _ O_h0.out.rats O_w0.out.rats HAN.out).mono ?_
  rintro e w17 ⟨rfl, bw17⟩
  replace O_w0 := Lib.hid (O_w0.out.below bw17)
  replace O_g0 := Lib.hid (O_g0.out.below bw17)
  replace O_h0 := Lib.hid (O_h0.out.below bw17)
  replace D_w0 := Lib.hid (D_w0.out.below bw17)
  replace D_g0 := Lib.hid (D_g0.out.below bw17)
  replace D_h0 := Lib.hid (D_h0.out.below bw17)
  replace B := Lib.hid (B.out.trans (bw17.mono B.out.size))
  have z_w17 := Lib.hid bw17.size
  clear bw17
  have c0_g0 := D_g0.out.c0
  have c1_g0 := D_g0.out.c1
  have c2_g0 := D_g0.out.c2
  go_wp2_with fail
  clear c0_g0 c1_g0 c2_g0
  refine (held_mat _ _ _ (1) _ ZL _ (by simp) O_g0.out.rats (by have := HA.out; omega)).mono ?_
  rintro e w18 ⟨rfl, bw18⟩
  replace O_w0 := Lib.hid (O_w0.out.below bw18)
  replace O_g0 := Lib.hid (O_g0.out.below bw18)
  replace O_h0 := Lib.hid (O_h0.out.below bw18)
  replace D_w0 := Lib.hid (D_w0.out.below bw18)
  replace D_g0 := Lib.hid (D_g0.out.below bw18)
  replace D_h0 := Lib.hid (D_h0.out.below bw18)
  replace B := Lib.hid (B.out.trans (bw18.mono B.out.size))
  have z_w18 := Lib.hid bw18.size
  clear bw18
  go_wp2
  go_ret
  exact ⟨rfl, B.out⟩


end Go.Proofs.Ytojklmckjebplaa
