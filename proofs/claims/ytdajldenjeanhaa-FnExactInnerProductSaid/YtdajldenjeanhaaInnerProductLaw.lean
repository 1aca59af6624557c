/- The exact law of InnerProduct. -/
import Derived.Test.YtdajldenjeanhaaVecInner
import Derived.Test.YtdajldenjeanhaaRatsIn
import Derived.Deep.CutBlock
import Derived.Deep.CutRange
import Derived.Deep.RegionHeld3
namespace Go.Proofs.Ytdajldenjeanhaa
open Go.RowKit Go.WideShapes Go.ChangeShapes
set_option linter.unusedVariables false
set_option linter.unusedSimpArgs false
theorem szL_le {L : List Fr} (h : ∀ f ∈ L, f.mag.length ≤ 1000 ∧ f.den.length ≤ 1000) : szL L ≤ L.length * 2000 := by
  induction L with
  | nil => simp [szL]
  | cons f L ih =>
    have h1 := h f (List.mem_cons_self ..)
    have h2 := ih (fun g hg => h g (List.mem_cons_of_mem _ hg))
    simp only [szL, List.length_cons]; omega
theorem cntL_le {L : List Fr} (h0 : L.length ≤ 24) (h : ∀ f ∈ L, f.mag.length ≤ 1000 ∧ f.den.length ≤ 1000) : cntL L ≤ 100000 := by
  have := szL_le h
  unfold cntL; omega
theorem rx_keptK {w w' : World} {S : Nat → Prop} {p : Nat} {t : TypeId} {b : Bool} {v d : Value} (h : Rx w p t b v d) (hk : Kept S w w') (hne : ¬ S p) : Rx w' p t b v d := (hk.block p h.lt hne).trans h
theorem kept_grown2 {w w' : World} {v d : Value} (h : Grown2 w w' v d) : Kept (fun k => v.ownBlock = some k ∨ d.ownBlock = some k) w w' := by
  obtain ⟨w1, g1, g2⟩ := h
  exact ((Kept.of_grown g1).mono (fun k e => .inl e)).trans ((Kept.of_grown g2).mono (fun k e => .inr e))
set_option maxHeartbeats 4000000 in
theorem law_innerProduct (W : World) (v0 : Value) (zs0 : List Fr) (h0 : RatsAt W v0 zs0) (_ : True) (v1 : Value) (zs1 : List Fr) (h1 : RatsAt W v1 zs1) (_ : True) :
    Calls Try.prog 9 #[v0, v1] W fun e w' => e = .returned (.bool true) ∧ Below W.heap.size W w' := by
  have R0 := Lib.hid h0
  clear h0
  have R1 := Lib.hid h1
  clear h1
  by_cases hs0 : (zs0.length : Int) + szL zs0 ≤ 1048576
  rotate_left
  · go_enter Try.func9, Try.ntmps9
    go_wp2_with fail
    refine (sz_ratv_no _ zs0 (1048576) _ (R0.out.below (Below.refl _ _)) (by omega) (by omega)).mono ?_
    rintro e w1 ⟨rfl, bw1⟩
    have B := Lib.hid bw1
    have z_w1 := Lib.hid bw1.size
    clear bw1
    go_wp2
    go_ret
    exact ⟨rfl, B.out⟩
  by_cases hs1 : (zs1.length : Int) + szL zs1 ≤ 1048576 - (zs0.length : Int) - szL zs0
  rotate_left
  · go_enter Try.func9, Try.ntmps9
    go_wp2_with fail
    refine (sz_ratv_yes _ zs0 (1048576) _ (R0.out.below (Below.refl _ _)) (by omega) (by omega)).mono ?_
    rintro e w1 ⟨rfl, bw1⟩
    have B := Lib.hid bw1
    have z_w1 := Lib.hid bw1.size
    clear bw1
    go_wp2_with fail
    refine (sz_ratv_no _ zs1 (1048576 - (zs0.length : Int) - szL zs0) _ (R1.out.below B.out) (by omega) (by omega)).mono ?_
    rintro e w2 ⟨rfl, bw2⟩
    replace B := Lib.hid (B.out.trans (bw2.mono B.out.size))
    have z_w2 := Lib.hid bw2.size
    clear bw2
    go_wp2
    go_ret
    exact ⟨rfl, B.out⟩
  have HL0 := Lib.hid (show ∀ f ∈ zs0, f.mag.length ≤ 1099511627776 ∧ f.den.length ≤ 1099511627776 from fun f hf => by have := szL_mem hf; omega)
  have HN0 := Lib.hid (show zs0.length ≤ 1048576 by omega)
  have HC0 := Lib.hid (show cntL zs0 ≤ 1048576 by unfold cntL; omega)
  have HL1 := Lib.hid (show ∀ f ∈ zs1, f.mag.length ≤ 1099511627776 ∧ f.den.length ≤ 1099511627776 from fun f hf => by have := szL_mem hf; omega)
  have HN1 := Lib.hid (show zs1.length ≤ 1048576 by omega)
  have HC1 := Lib.hid (show cntL zs1 ≤ 1048576 by unfold cntL; omega)
  have hlz := Lib.hid ((innF_len zs0 zs1).1)
  have hld := Lib.hid ((innF_len zs0 zs1).2)
  obtain ⟨ZF, hZF⟩ : ∃ x, x = innF zs0 zs1 := ⟨_, rfl⟩
  have HZF := Lib.hid hZF
  rw [← hZF] at hlz hld
  clear hZF
  go_enter Try.func9, Try.ntmps9
  go_wp2_with fail
  refine (sz_ratv_yes _ zs0 (1048576) _ (R0.out.below (Below.refl _ _)) (by omega) (by omega)).mono ?_
  rintro e w1 ⟨rfl, bw1⟩
  have B := Lib.hid bw1
  have z_w1 := Lib.hid bw1.size
  clear bw1
  go_wp2_with fail
  refine (sz_ratv_yes _ zs1 (1048576 - (zs0.length : Int) - szL zs0) _ (R1.out.below B.out) (by omega) (by omega)).mono ?_
  rintro e w2 ⟨rfl, bw2⟩
  replace B := Lib.hid (B.out.trans (bw2.mono B.out.size))
  have z_w2 := Lib.hid bw2.size
  clear bw2
  go_wp2_with fail
  refine (to_ratv _ zs0 _ (R0.out.below B.out) HN0.out HL0.out).mono ?_
  rintro e w3 ⟨v_t1, x_t1, rfl, o_t1, bw3⟩
  replace B := Lib.hid (B.out.trans (bw3.mono B.out.size))
  have z_w3 := Lib.hid bw3.size
  have O_t1 := Lib.hid o_t1
  have L_t1 := Lib.hid o_t1.lt
  clear o_t1
  clear bw3
  go_wp2_with fail
  refine (to_ratv _ zs1 _ (R1.out.below B.out) HN1.out HL1.out).mono ?_
  rintro e w4 ⟨v_t2, x_t2, rfl, o_t2, bw4⟩
  replace O_t1 := Lib.hid (O_t1.out.below bw4)
  replace B := Lib.hid (B.out.trans (bw4.mono B.out.size))
  have z_w4 := Lib.hid bw4.size
  have O_t2 := Lib.hid o_t2
  have L_t2 := Lib.hid o_t2.lt
  clear o_t2
  clear bw4
  go_wp2_with fail
  have hc9 := spec_innerProduct _ zs0 _ zs1 _ O_t1.out.rats O_t2.out.rats
  rw [← HZF.out] at hc9
  refine (hc9).mono ?_
  rintro e w5 ⟨v_w0, d_w0, rfl, o_w0, bw5⟩
  obtain ⟨a_w0, c_w0, e_w0, f_w0, rfl, rfl⟩ := o_w0.slices
  replace O_t1 := Lib.hid (O_t1.out.below bw5)
  replace O_t2 := Lib.hid (O_t2.out.below bw5)
  replace B := Lib.hid (B.out.trans (bw5.mono B.out.size))
  have z_w5 := Lib.hid bw5.size
  have O_w0 := Lib.hid o_w0
  have L_w0 := Lib.hid o_w0.lt
  clear o_w0
  clear bw5
  clear O_t1 L_t1
  clear O_t2 L_t2
  have hz := B.out.size
  go_wp2_with fail
  clear hz
  obtain ⟨w6, hW0⟩ : ∃ x, x = w5.alloc (.cells #[.bool (ZF.neg), .slice a_w0 (ZF.mag).length c_w0, .slice e_w0 (ZF.den).length f_w0] 46) := ⟨_, rfl⟩
  replace O_w0 := Lib.hid (show OwnR w6 _ _ _ _ _ by rw [hW0]; exact O_w0.out.alloc _)
  have D_w0 := Lib.hid (show Rx w6 w5.heap.size 46 (ZF.neg) (.slice a_w0 (ZF.mag).length c_w0) (.slice e_w0 (ZF.den).length f_w0) by rw [hW0]; exact Rx.new _ _ _ _ _)
  replace B := Lib.hid (show Below W.heap.size W w6 by rw [hW0]; exact B.out.alloc B.out.size _)
  have z_w6 := Lib.hid (show w6.heap.size = w5.heap.size + 1 by rw [hW0]; simp)
  rw [← hW0]
  clear hW0
  refine (to_ratv _ zs0 _ (R0.out.below B.out) HN0.out HL0.out).mono ?_
  rintro e w7 ⟨v_x0, x_x0, rfl, o_x0, bw7⟩
  replace O_w0 := Lib.hid (O_w0.out.below bw7)
  replace D_w0 := Lib.hid (D_w0.out.below bw7)
  replace B := Lib.hid (B.out.trans (bw7.mono B.out.size))
  have z_w7 := Lib.hid bw7.size
  have O_x0 := Lib.hid o_x0
  have L_x0 := Lib.hid o_x0.lt
  clear o_x0
  clear bw7
  go_wp2_with fail
  refine (to_ratv _ zs1 _ (R1.out.below B.out) HN1.out HL1.out).mono ?_
  rintro e w8 ⟨v_x1, x_x1, rfl, o_x1, bw8⟩
  replace O_w0 := Lib.hid (O_w0.out.below bw8)
  replace O_x0 := Lib.hid (O_x0.out.below bw8)
  replace D_w0 := Lib.hid (D_w0.out.below bw8)
  replace B := Lib.hid (B.out.trans (bw8.mono B.out.size))
  have z_w8 := Lib.hid bw8.size
  have O_x1 := Lib.hid o_x1
  have L_x1 := Lib.hid o_x1.lt
  clear o_x1
  clear bw8
  go_wp2_with fail
  have hc9 := impl_innerProduct _ zs0 _ zs1 _ O_x0.out.rats O_x1.out.rats
  rw [← HZF.out] at hc9
  refine (hc9).mono ?_
  rintro e w9 ⟨v_g0, d_g0, rfl, o_g0, bw9⟩
  obtain ⟨a_g0, c_g0, e_g0, f_g0, rfl, rfl⟩ := o_g0.slices
  replace O_w0 := Lib.hid (O_w0.out.below bw9)
  replace O_x0 := Lib.hid (O_x0.out.below bw9)
  replace O_x1 := Lib.hid (O_x1.out.below bw9)
  replace D_w0 := Lib.hid (D_w0.out.below bw9)
  replace B := Lib.hid (B.out.trans (bw9.mono B.out.size))
  have z_w9 := Lib.hid bw9.size
  have O_g0 := Lib.hid o_g0
  have L_g0 := Lib.hid o_g0.lt
  clear o_g0
  clear bw9
  have c0_w0 := D_w0.out.c0
  have c1_w0 := D_w0.out.c1
  have c2_w0 := D_w0.out.c2
  have lt_w0 := D_w0.out.lt
  have hz := B.out.size
  go_wp2_with fail
  clear c0_w0 c1_w0 c2_w0 lt_w0
  clear hz
  obtain ⟨w10, hW0⟩ : ∃ x, x = w9.alloc (.cells #[.bool (ZF.neg), .slice a_g0 (ZF.mag).length c_g0, .slice e_g0 (ZF.den).length f_g0] 46) := ⟨_, rfl⟩
  replace O_w0 := Lib.hid (show OwnR w10 _ _ _ _ _ by rw [hW0]; exact O_w0.out.alloc _)
  replace O_x0 := Lib.hid (show OwnV w10 _ _ _ _ by rw [hW0]; exact O_x0.out.alloc _)
  replace O_x1 := Lib.hid (show OwnV w10 _ _ _ _ by rw [hW0]; exact O_x1.out.alloc _)
  replace O_g0 := Lib.hid (show OwnR w10 _ _ _ _ _ by rw [hW0]; exact O_g0.out.alloc _)
  replace D_w0 := Lib.hid (show Rx w10 _ _ _ _ _ by rw [hW0]; exact D_w0.out.alloc _)
  have D_g0 := Lib.hid (show Rx w10 w9.heap.size 46 (ZF.neg) (.slice a_g0 (ZF.mag).length c_g0) (.slice e_g0 (ZF.den).length f_g0) by rw [hW0]; exact Rx.new _ _ _ _ _)
  replace B := Lib.hid (show Below W.heap.size W w10 by rw [hW0]; exact B.out.alloc B.out.size _)
  have z_w10 := Lib.hid (show w10.heap.size = w9.heap.size + 1 by rw [hW0]; simp)
  rw [← hW0]
  clear hW0
  refine (eq_ratsR _ _ _ _ _ _ _ O_g0.out.row O_w0.out.row).mono ?_
  rintro e w11 ⟨rfl, bw11⟩
  replace O_w0 := Lib.hid (O_w0.out.below bw11)
  replace O_x0 := Lib.hid (O_x0.out.below bw11)
  replace O_x1 := Lib.hid (O_x1.out.below bw11)
  replace O_g0 := Lib.hid (O_g0.out.below bw11)
  replace D_w0 := Lib.hid (D_w0.out.below bw11)
  replace D_g0 := Lib.hid (D_g0.out.below bw11)
  replace B := Lib.hid (B.out.trans (bw11.mono B.out.size))
  have z_w11 := Lib.hid bw11.size
  clear bw11
  go_wp2_with fail
  refine (to_ratv _ zs0 _ (R0.out.below B.out) HN0.out HL0.out).mono ?_
  rintro e w12 ⟨v_t3, x_t3, rfl, o_t3, bw12⟩
  replace O_w0 := Lib.hid (O_w0.out.below bw12)
  replace O_x0 := Lib.hid (O_x0.out.below bw12)
  replace O_x1 := Lib.hid (O_x1.out.below bw12)
  replace O_g0 := Lib.hid (O_g0.out.below bw12)
  replace D_w0 := Lib.hid (D_w0.out.below bw12)
  replace D_g0 := Lib.hid (D_g0.out.below bw12)
  replace B := Lib.hid (B.out.trans (bw12.mono B.out.size))
  have z_w12 := Lib.hid bw12.size
  have O_t3 := Lib.hid o_t3
  have L_t3 := Lib.hid o_t3.lt
  clear o_t3
  clear bw12
  go_wp2_with fail
  refine (eq_ratv _ _ _ _ O_x0.out.rats O_t3.out.rats HN0.out).mono ?_
  rintro e w13 ⟨rfl, bw13⟩
  replace O_w0 := Lib.hid (O_w0.out.below bw13)
  replace O_x0 := Lib.hid (O_x0.out.below bw13)
  replace O_x1 := Lib.hid (O_x1.out.below bw13)
  replace O_g0 := Lib.hid (O_g0.out.below bw13)
  replace O_t3 := Lib.hid (O_t3.out.below bw13)
  replace D_w0 := Lib.hid (D_w0.out.below bw13)
  replace D_g0 := Lib.hid (D_g0.out.below bw13)
  replace B := Lib.hid (B.out.trans (bw13.mono B.out.size))
  have z_w13 := Lib.hid bw13.size
  clear bw13
  clear O_t3 L_t3
  go_wp2_with fail
  refine (to_ratv _ zs1 _ (R1.out.below B.out) HN1.out HL1.out).mono ?_
  rintro e w14 ⟨v_t4, x_t4, rfl, o_t4, bw14⟩
  replace O_w0 := Lib.hid (O_w0.out.below bw14)
  replace O_x0 := Lib.hid (O_x0.out.below bw14)
  replace O_x1 := Lib.hid (O_x1.out.below bw14)
  replace O_g0 := Lib.hid (O_g0.out.below bw14)
  replace D_w0 := Lib.hid (D_w0.out.below bw14)
  replace D_g0 := Lib.hid (D_g0.out.below bw14)
  replace B := Lib.hid (B.out.trans (bw14.mono B.out.size))
  have z_w14 := Lib.hid bw14.size
  have O_t4 := Lib.hid o_t4
  have L_t4 := Lib.hid o_t4.lt
  clear o_t4
  clear bw14
  go_wp2_with fail
  refine (eq_ratv _ _ _ _ O_x1.out.rats O_t4.out.rats HN1.out).mono ?_
  rintro e w15 ⟨rfl, bw15⟩
  replace O_w0 := Lib.hid (O_w0.out.below bw15)
  replace O_x0 := Lib.hid (O_x0.out.below bw15)
  replace O_x1 := Lib.hid (O_x1.out.below bw15)
  replace O_g0 := Lib.hid (O_g0.out.below bw15)
  replace O_t4 := Lib.hid (O_t4.out.below bw15)
  replace D_w0 := Lib.hid (D_w0.out.below bw15)
  replace D_g0 := Lib.hid (D_g0.out.below bw15)
  replace B := Lib.hid (B.out.trans (bw15.mono B.out.size))
  have z_w15 := Lib.hid bw15.size
  clear bw15
  clear O_t4 L_t4
  go_wp2_with fail
  refine (mark_ratv _ (1) _ (zs0) _ _ _ (by simp) O_x0.out (by skip; have := HC0.out; have := HC1.out; skip; omega) (by have := HN0.out; omega)).mono ?_
  rintro e w16 ⟨rfl, om, bk⟩
  replace O_w0 := Lib.hid (O_w0.out.kept bk (fun k hk hs => by have := L_w0.out k hk; have := L_x0.out k hs; have := z_w1.out; have := z_w2.out; have := z_w3.out; have := z_w4.out; have := z_w5.out; have := z_w6.out; have := z_w7.out; have := z_w8.out; have := z_w9.out; have := z_w10.out; have := z_w11.out; have := z_w12.out; have := z_w13.out; have := z_w14.out; have := z_w15.out; omega))
  replace O_x1 := Lib.hid (O_x1.out.kept bk (fun k hk hs => by have := L_x1.out k hk; have := L_x0.out k hs; have := z_w1.out; have := z_w2.out; have := z_w3.out; have := z_w4.out; have := z_w5.out; have := z_w6.out; have := z_w7.out; have := z_w8.out; have := z_w9.out; have := z_w10.out; have := z_w11.out; have := z_w12.out; have := z_w13.out; have := z_w14.out; have := z_w15.out; omega))
  replace O_g0 := Lib.hid (O_g0.out.kept bk (fun k hk hs => by have := L_g0.out k hk; have := L_x0.out k hs; have := z_w1.out; have := z_w2.out; have := z_w3.out; have := z_w4.out; have := z_w5.out; have := z_w6.out; have := z_w7.out; have := z_w8.out; have := z_w9.out; have := z_w10.out; have := z_w11.out; have := z_w12.out; have := z_w13.out; have := z_w14.out; have := z_w15.out; omega))
  replace D_w0 := Lib.hid (rx_keptK D_w0.out bk (fun hs => by have := L_x0.out _ hs; have := z_w1.out; have := z_w2.out; have := z_w3.out; have := z_w4.out; have := z_w5.out; have := z_w6.out; have := z_w7.out; have := z_w8.out; have := z_w9.out; have := z_w10.out; have := z_w11.out; have := z_w12.out; have := z_w13.out; have := z_w14.out; have := z_w15.out; omega))
  replace D_g0 := Lib.hid (rx_keptK D_g0.out bk (fun hs => by have := L_x0.out _ hs; have := z_w1.out; have := z_w2.out; have := z_w3.out; have := z_w4.out; have := z_w5.out; have := z_w6.out; have := z_w7.out; have := z_w8.out; have := z_w9.out; have := z_w10.out; have := z_w11.out; have := z_w12.out; have := z_w13.out; have := z_w14.out; have := z_w15.out; omega))
  replace B := Lib.hid (below_kept B.out bk B.out.size (fun k hk => by have := L_x0.out k hk; have := z_w1.out; have := z_w2.out; have := z_w3.out; have := z_w4.out; have := z_w5.out; have := z_w6.out; have := z_w7.out; have := z_w8.out; have := z_w9.out; have := z_w10.out; have := z_w11.out; have := z_w12.out; have := z_w13.out; have := z_w14.out; have := z_w15.out; have := B.out.size; omega))
  have z_w16 := Lib.hid bk.size
  replace O_x0 := Lib.hid om
  clear om bk
  go_wp2_with fail
  refine (mark_ratv _ (1 + cntL zs0) _ (zs1) _ _ _ (by simp) O_x1.out (by skip; have := HC0.out; have := HC1.out; skip; omega) (by have := HN1.out; omega)).mono ?_
  rintro e w17 ⟨rfl, om, bk⟩
  replace O_w0 := Lib.hid (O_w0.out.kept bk (fun k hk hs => by have := L_w0.out k hk; have := L_x1.out k hs; have := z_w1.out; have := z_w2.out; have := z_w3.out; have := z_w4.out; have := z_w5.out; have := z_w6.out; have := z_w7.out; have := z_w8.out; have := z_w9.out; have := z_w10.out; have := z_w11.out; have := z_w12.out; have := z_w13.out; have := z_w14.out; have := z_w15.out; have := z_w16.out; omega))
  replace O_x0 := Lib.hid (O_x0.out.kept bk (fun k hk hs => by have := L_x0.out k hk; have := L_x1.out k hs; have := z_w1.out; have := z_w2.out; have := z_w3.out; have := z_w4.out; have := z_w5.out; have := z_w6.out; have := z_w7.out; have := z_w8.out; have := z_w9.out; have := z_w10.out; have := z_w11.out; have := z_w12.out; have := z_w13.out; have := z_w14.out; have := z_w15.out; have := z_w16.out; omega))
  replace O_g0 := Lib.hid (O_g0.out.kept bk (fun k hk hs => by have := L_g0.out k hk; have := L_x1.out k hs; have := z_w1.out; have := z_w2.out; have := z_w3.out; have := z_w4.out; have := z_w5.out; have := z_w6.out; have := z_w7.out; have := z_w8.out; have := z_w9.out; have := z_w10.out; have := z_w11.out; have := z_w12.out; have := z_w13.out; have := z_w14.out; have := z_w15.out; have := z_w16.out; omega))
  replace D_w0 := Lib.hid (rx_keptK D_w0.out bk (fun hs => by have := L_x1.out _ hs; have := z_w1.out; have := z_w2.out; have := z_w3.out; have := z_w4.out; have := z_w5.out; have := z_w6.out; have := z_w7.out; have := z_w8.out; have := z_w9.out; have := z_w10.out; have := z_w11.out; have := z_w12.out; have := z_w13.out; have := z_w14.out; have := z_w15.out; have := z_w16.out; omega))
  replace D_g0 := Lib.hid (rx_keptK D_g0.out bk (fun hs => by have := L_x1.out _ hs; have := z_w1.out; have := z_w2.out; have := z_w3.out; have := z_w4.out; have := z_w5.out; have := z_w6.out; have := z_w7.out; have := z_w8.out; have := z_w9.out; have := z_w10.out; have := z_w11.out; have := z_w12.out; have := z_w13.out; have := z_w14.out; have := z_w15.out; have := z_w16.out; omega))
  replace B := Lib.hid (below_kept B.out bk B.out.size (fun k hk => by have := L_x1.out k hk; have := z_w1.out; have := z_w2.out; have := z_w3.out; have := z_w4.out; have := z_w5.out; have := z_w6.out; have := z_w7.out; have := z_w8.out; have := z_w9.out; have := z_w10.out; have := z_w11.out; have := z_w12.out; have := z_w13.out; have := z_w14.out; have := z_w15.out; have := z_w16.out; have := B.out.size; omega))
  have z_w17 := Lib.hid bk.size
  replace O_x1 := Lib.hid om
  clear om bk
  clear O_x0 L_x0
  clear O_x1 L_x1
  have c0_g0 := D_g0.out.c0
  have c1_g0 := D_g0.out.c1
  have c2_g0 := D_g0.out.c2
  have c0_w0 := D_w0.out.c0
  have c1_w0 := D_w0.out.c1
  have c2_w0 := D_w0.out.c2
  go_wp2_with fail
  clear c0_g0 c1_g0 c2_g0
  clear c0_w0 c1_w0 c2_w0
  refine (eq_ratsR _ _ _ _ _ _ _ O_g0.out.row O_w0.out.row).mono ?_
  rintro e w18 ⟨rfl, bw18⟩
  replace O_w0 := Lib.hid (O_w0.out.below bw18)
  replace O_g0 := Lib.hid (O_g0.out.below bw18)
  replace D_w0 := Lib.hid (D_w0.out.below bw18)
  replace D_g0 := Lib.hid (D_g0.out.below bw18)
  replace B := Lib.hid (B.out.trans (bw18.mono B.out.size))
  have z_w18 := Lib.hid bw18.size
  clear bw18
  have c0_g0 := D_g0.out.c0
  have c1_g0 := D_g0.out.c1
  have c2_g0 := D_g0.out.c2
  go_wp2_with fail
  clear c0_g0 c1_g0 c2_g0
  refine (mark_rats _ _ (1) _ _ _ _ _ (by simp) O_g0.out (by have := hlz.out; have := hld.out; omega)).mono ?_
  rintro e w19 ⟨rfl, om, gw⟩
  have bk := kept_grown2 gw
  clear gw
  replace O_w0 := Lib.hid (O_w0.out.kept bk (fun k hk hs => by have := L_w0.out k hk; have := L_g0.out k hs; have := z_w1.out; have := z_w2.out; have := z_w3.out; have := z_w4.out; have := z_w5.out; have := z_w6.out; have := z_w7.out; have := z_w8.out; have := z_w9.out; have := z_w10.out; have := z_w11.out; have := z_w12.out; have := z_w13.out; have := z_w14.out; have := z_w15.out; have := z_w16.out; have := z_w17.out; have := z_w18.out; omega))
  replace D_w0 := Lib.hid (rx_keptK D_w0.out bk (fun hs => by have := L_g0.out _ hs; have := z_w1.out; have := z_w2.out; have := z_w3.out; have := z_w4.out; have := z_w5.out; have := z_w6.out; have := z_w7.out; have := z_w8.out; have := z_w9.out; have := z_w10.out; have := z_w11.out; have := z_w12.out; have := z_w13.out; have := z_w14.out; have := z_w15.out; have := z_w16.out; have := z_w17.out; have := z_w18.out; omega))
  replace D_g0 := Lib.hid (rx_keptK D_g0.out bk (fun hs => by have := L_g0.out _ hs; have := z_w1.out; have := z_w2.out; have := z_w3.out; have := z_w4.out; have := z_w5.out; have := z_w6.out; have := z_w7.out; have := z_w8.out; have := z_w9.out; have := z_w10.out; have := z_w11.out; have := z_w12.out; have := z_w13.out; have := z_w14.out; have := z_w15.out; have := z_w16.out; have := z_w17.out; have := z_w18.out; omega))
  replace B := Lib.hid (below_kept B.out bk B.out.size (fun k hk => by have := L_g0.out k hk; have := z_w1.out; have := z_w2.out; have := z_w3.out; have := z_w4.out; have := z_w5.out; have := z_w6.out; have := z_w7.out; have := z_w8.out; have := z_w9.out; have := z_w10.out; have := z_w11.out; have := z_w12.out; have := z_w13.out; have := z_w14.out; have := z_w15.out; have := z_w16.out; have := z_w17.out; have := z_w18.out; have := B.out.size; omega))
  have z_w19 := Lib.hid bk.size
  replace O_g0 := Lib.hid om
  clear om bk
  have c0_g0 := D_g0.out.c0
  have c1_g0 := D_g0.out.c1
  have c2_g0 := D_g0.out.c2
  go_wp2_with fail
  clear c0_g0 c1_g0 c2_g0
  refine (held_ratsR _ _ ZF.mag.length ZF.den.length 1 _ _ (by simp) O_g0.out.row (by have := hlz.out; have := hld.out; omega)).mono ?_
  rintro e w20 ⟨rfl, bw20⟩
  replace O_w0 := Lib.hid (O_w0.out.below bw20)
  replace O_g0 := Lib.hid (O_g0.out.below bw20)
  replace D_w0 := Lib.hid (D_w0.out.below bw20)
  replace D_g0 := Lib.hid (D_g0.out.below bw20)
  replace B := Lib.hid (B.out.trans (bw20.mono B.out.size))
  have z_w20 := Lib.hid bw20.size
  clear bw20
  go_wp2_with fail
  refine (to_ratv _ zs0 _ (R0.out.below B.out) HN0.out HL0.out).mono ?_
  rintro e w21 ⟨v_t5, x_t5, rfl, o_t5, bw21⟩
  replace O_w0 := Lib.hid (O_w0.out.below bw21)
  replace O_g0 := Lib.hid (O_g0.out.below bw21)
  replace D_w0 := Lib.hid (D_w0.out.below bw21)
  replace D_g0 := Lib.hid (D_g0.out.below bw21)
  replace B := Lib.hid (B.out.trans (bw21.mono B.out.size))
  have z_w21 := Lib.hid bw21.size
  have O_t5 := Lib.hid o_t5
  have L_t5 := Lib.hid o_t5.lt
  clear o_t5
  clear bw21
  go_wp2_with fail
  refine (to_ratv _ zs1 _ (R1.out.below B.out) HN1.out HL1.out).mono ?_
  rintro e w22 ⟨v_t6, x_t6, rfl, o_t6, bw22⟩
  replace O_w0 := Lib.hid (O_w0.out.below bw22)
  replace O_g0 := Lib.hid (O_g0.out.below bw22)
  replace O_t5 := Lib.hid (O_t5.out.below bw22)
  replace D_w0 := Lib.hid (D_w0.out.below bw22)
  replace D_g0 := Lib.hid (D_g0.out.below bw22)
  replace B := Lib.hid (B.out.trans (bw22.mono B.out.size))
  have z_w22 := Lib.hid bw22.size
  have O_t6 := Lib.hid o_t6
  have L_t6 := Lib.hid o_t6.lt
  clear o_t6
  clear bw22
  go_wp2_with fail
  have hc9 := impl_innerProduct _ zs0 _ zs1 _ O_t5.out.rats O_t6.out.rats
  rw [← HZF.out] at hc9
  refine (hc9).mono ?_
  rintro e w23 ⟨v_h0, d_h0, rfl, o_h0, bw23⟩
  obtain ⟨a_h0, c_h0, e_h0, f_h0, rfl, rfl⟩ := o_h0.slices
  replace O_w0 := Lib.hid (O_w0.out.below bw23)
  replace O_g0 := Lib.hid (O_g0.out.below bw23)
  replace O_t5 := Lib.hid (O_t5.out.below bw23)
  replace O_t6 := Lib.hid (O_t6.out.below bw23)
  replace D_w0 := Lib.hid (D_w0.out.below bw23)
  replace D_g0 := Lib.hid (D_g0.out.below bw23)
  replace B := Lib.hid (B.out.trans (bw23.mono B.out.size))
  have z_w23 := Lib.hid bw23.size
  have O_h0 := Lib.hid o_h0
  have L_h0 := Lib.hid o_h0.lt
  clear o_h0
  clear bw23
  clear O_t5 L_t5
  clear O_t6 L_t6
  have c0_w0 := D_w0.out.c0
  have c1_w0 := D_w0.out.c1
  have c2_w0 := D_w0.out.c2
  have lt_w0 := D_w0.out.lt
  have hz := B.out.size
  go_wp2_with fail
  clear c0_w0 c1_w0 c2_w0 lt_w0
  clear hz
  obtain ⟨w24, hW0⟩ : ∃ x, x = w23.alloc (.cells #[.bool (ZF.neg), .slice a_h0 (ZF.mag).length c_h0, .slice e_h0 (ZF.den).length f_h0] 46) := ⟨_, rfl⟩
  replace O_w0 := Lib.hid (show OwnR w24 _ _ _ _ _ by rw [hW0]; exact O_w0.out.alloc _)
  replace O_g0 := Lib.hid (show OwnR w24 _ _ _ _ _ by rw [hW0]; exact O_g0.out.alloc _)
  replace O_h0 := Lib.hid (show OwnR w24 _ _ _ _ _ by rw [hW0]; exact O_h0.out.alloc _)
  replace D_w0 := Lib.hid (show Rx w24 _ _ _ _ _ by rw [hW0]; exact D_w0.out.alloc _)
  replace D_g0 := Lib.hid (show Rx w24 _ _ _ _ _ by rw [hW0]; exact D_g0.out.alloc _)
  have D_h0 := Lib.hid (show Rx w24 w23.heap.size 46 (ZF.neg) (.slice a_h0 (ZF.mag).length c_h0) (.slice e_h0 (ZF.den).length f_h0) by rw [hW0]; exact Rx.new _ _ _ _ _)
  replace B := Lib.hid (show Below W.heap.size W w24 by rw [hW0]; exact B.out.alloc B.out.size _)
  have z_w24 := Lib.hid (show w24.heap.size = w23.heap.size + 1 by rw [hW0]; simp)
  rw [← hW0]
  clear hW0
  refine (eq_ratsR _ _ _ _ _ _ _ O_h0.out.row O_w0.out.row).mono ?_
  rintro e w25 ⟨rfl, bw25⟩
  replace O_w0 := Lib.hid (O_w0.out.below bw25)
  replace O_g0 := Lib.hid (O_g0.out.below bw25)
  replace O_h0 := Lib.hid (O_h0.out.below bw25)
  replace D_w0 := Lib.hid (D_w0.out.below bw25)
  replace D_g0 := Lib.hid (D_g0.out.below bw25)
  replace D_h0 := Lib.hid (D_h0.out.below bw25)
  replace B := Lib.hid (B.out.trans (bw25.mono B.out.size))
  have z_w25 := Lib.hid bw25.size
  clear bw25
  have c0_g0 := D_g0.out.c0
  have c1_g0 := D_g0.out.c1
  have c2_g0 := D_g0.out.c2
  go_wp2_with fail
  clear c0_g0 c1_g0 c2_g0
  refine (held_ratsR _ _ ZF.mag.length ZF.den.length 1 _ _ (by simp) O_g0.out.row (by have := hlz.out; have := hld.out; omega)).mono ?_
  rintro e w26 ⟨rfl, bw26⟩
  replace O_w0 := Lib.hid (O_w0.out.below bw26)
  replace O_g0 := Lib.hid (O_g0.out.below bw26)
  replace O_h0 := Lib.hid (O_h0.out.below bw26)
  replace D_w0 := Lib.hid (D_w0.out.below bw26)
  replace D_g0 := Lib.hid (D_g0.out.below bw26)
  replace D_h0 := Lib.hid (D_h0.out.below bw26)
  replace B := Lib.hid (B.out.trans (bw26.mono B.out.size))
  have z_w26 := Lib.hid bw26.size
  clear bw26
  go_wp2
  go_ret
  exact ⟨rfl, B.out⟩


end Go.Proofs.Ytdajldenjeanhaa
