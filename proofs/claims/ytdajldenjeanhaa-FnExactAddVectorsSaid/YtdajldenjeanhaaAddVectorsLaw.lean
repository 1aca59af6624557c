/- The exact law of AddVectors. -/
import Derived.Test.YtdajldenjeanhaaVecComb
import Derived.Test.YtdajldenjeanhaaRatsIn
import Derived.Deep.CutBlock
import Derived.Deep.CutRange
import Derived.Deep.RegionHeld3
namespace Go.Proofs.Ytdajldenjeanhaa
open Go.RowKit Go.WideShapes Go.ChangeShapes
set_option linter.unusedVariables false
set_option linter.unusedSimpArgs false
theorem szL_le {L : List Fr} (h : ∀ f ∈ L, f.mag.length ≤ 1000 ∧ f.den.length ≤ 1000) : szL L ≤ L.length * 2000 := by
  induction L with
  | nil => simp [szL]
  | cons f L ih =>
    have h1 := h f (List.mem_cons_self ..)
    have h2 := ih (fun g hg => h g (List.mem_cons_of_mem _ hg))
    simp only [szL, List.length_cons]; omega
theorem cntL_le {L : List Fr} (h0 : L.length ≤ 24) (h : ∀ f ∈ L, f.mag.length ≤ 1000 ∧ f.den.length ≤ 1000) : cntL L ≤ 100000 := by
  have := szL_le h
  unfold cntL; omega
theorem zipL_len (op : Fr → Fr → Fr) (hop : ∀ f g, (op f g).mag.length ≤ 24 ∧ (op f g).den.length ≤ 24) (A B : List Fr) : cntL (zipL op A B) ≤ 100000 := by
  unfold zipL
  split
  · rename_i h
    have hp : pairOk A B = true := by unfold zipB at h; exact (Bool.and_eq_true _ _ ▸ h).1
    obtain ⟨q0, _, _⟩ := pair_parts hp
    have h1 := (vec_parts q0).1
    refine cntL_le (Nat.le_trans zip_len h1) (fun f hf => ?_)
    obtain ⟨i, hi, rfl⟩ := List.getElem_of_mem hf
    have h0 : i < A.length := by unfold zipF at hi; simp at hi; omega
    have h2 : i < B.length := by unfold zipF at hi; simp at hi; omega
    rw [zip_at h0 h2]
    have := hop (A[i]'h0) (B[i]'h2); omega
  · exact cntL_le (by simp) (fun f hf => by simp at hf)
set_option maxHeartbeats 2000000 in
theorem law_addVectors (W : World) (v0 : Value) (zs0 : List Fr) (h0 : RatsAt W v0 zs0) (_ : True) (v1 : Value) (zs1 : List Fr) (h1 : RatsAt W v1 zs1) (_ : True) :
    Calls Try.prog 6 #[v0, v1] W fun e w' => e = .returned (.bool true) ∧ Below W.heap.size W w' := by
  have R0 := Lib.hid h0
  clear h0
  have R1 := Lib.hid h1
  clear h1
  by_cases hs0 : (zs0.length : Int) + szL zs0 ≤ 1048576
  rotate_left
  · go_enter Try.func6, Try.ntmps6
    go_wp2_with fail
    refine (sz_ratv_no _ zs0 _ _ R0.out (by omega) (by omega)).mono ?_
    rintro e w1 ⟨rfl, b1⟩
    have z1 := Lib.hid b1.size
    have B := Lib.hid b1
    clear b1
    go_wp2
    go_ret
    exact ⟨rfl, B.out⟩
  by_cases hs1 : (zs1.length : Int) + szL zs1 ≤ 1048576 - zs0.length - szL zs0
  rotate_left
  · go_enter Try.func6, Try.ntmps6
    go_wp2_with fail
    refine (sz_ratv_yes _ zs0 _ _ R0.out (by omega) (by omega)).mono ?_
    rintro e w1 ⟨rfl, b1⟩
    have z1 := Lib.hid b1.size
    have B := Lib.hid b1
    clear b1
    go_wp2_with fail
    refine (sz_ratv_no _ zs1 _ _ (R1.out.below B.out) (by omega) (by omega)).mono ?_
    rintro e w2 ⟨rfl, b2⟩
    have z2 := Lib.hid b2.size
    replace B := Lib.hid (B.out.trans (b2.mono B.out.size))
    clear b2
    go_wp2
    go_ret
    exact ⟨rfl, B.out⟩
  have HL0 := Lib.hid (show ∀ f ∈ zs0, f.mag.length ≤ 1099511627776 ∧ f.den.length ≤ 1099511627776 from fun f hf => by have := szL_mem hf; omega)
  have HN0 := Lib.hid (show zs0.length ≤ 1048576 by omega)
  have HC0 := Lib.hid (show cntL zs0 ≤ 1048576 by unfold cntL; omega)
  have HL1 := Lib.hid (show ∀ f ∈ zs1, f.mag.length ≤ 1099511627776 ∧ f.den.length ≤ 1099511627776 from fun f hf => by have := szL_mem hf; omega)
  have HN1 := Lib.hid (show zs1.length ≤ 1048576 by omega)
  have HC1 := Lib.hid (show cntL zs1 ≤ 1048576 by unfold cntL; omega)
  have HA := Lib.hid (show cntL (zipL addX zs0 zs1) ≤ 100000 from zipL_len addX add_len zs0 zs1)
  have HAN := Lib.hid (show (zipL addX zs0 zs1).length ≤ 1048576 by have := HA.out; unfold cntL at this; omega)
  go_enter Try.func6, Try.ntmps6
  go_wp2_with fail
  refine (sz_ratv_yes _ zs0 _ _ R0.out (by omega) (by omega)).mono ?_
  rintro e w1 ⟨rfl, b1⟩
  have z1 := Lib.hid b1.size
  have B := Lib.hid b1
  clear b1
  go_wp2_with fail
  refine (sz_ratv_yes _ zs1 _ _ (R1.out.below B.out) (by omega) (by omega)).mono ?_
  rintro e w2 ⟨rfl, b2⟩
  have z2 := Lib.hid b2.size
  replace B := Lib.hid (B.out.trans (b2.mono B.out.size))
  clear b2
  go_wp2_with fail
  refine (to_ratv _ zs0 _ (R0.out.below B.out) HN0.out HL0.out).mono ?_
  rintro e w3 ⟨v_t1, x_t1, rfl, o_t1, b3⟩
  have z3 := Lib.hid b3.size
  replace B := Lib.hid (B.out.trans (b3.mono B.out.size))
  have O_t1 := Lib.hid o_t1
  have L_t1 := Lib.hid o_t1.lt
  clear o_t1
  clear b3
  go_wp2_with fail
  refine (to_ratv _ zs1 _ (R1.out.below B.out) HN1.out HL1.out).mono ?_
  rintro e w4 ⟨v_t2, x_t2, rfl, o_t2, b4⟩
  have z4 := Lib.hid b4.size
  replace O_t1 := Lib.hid (O_t1.out.below b4)
  replace B := Lib.hid (B.out.trans (b4.mono B.out.size))
  have O_t2 := Lib.hid o_t2
  have L_t2 := Lib.hid o_t2.lt
  clear o_t2
  clear b4
  go_wp2_with fail
  refine (spec_addV _ zs0 _ zs1 _ O_t1.out.rats O_t2.out.rats).mono ?_
  rintro e w5 ⟨v_w_0, x_w_0, rfl, o_w_0, b5⟩
  have z5 := Lib.hid b5.size
  replace O_t1 := Lib.hid (O_t1.out.below b5)
  replace O_t2 := Lib.hid (O_t2.out.below b5)
  replace B := Lib.hid (B.out.trans (b5.mono B.out.size))
  have O_w_0 := Lib.hid o_w_0
  have L_w_0 := Lib.hid o_w_0.lt
  clear o_w_0
  clear b5
  clear O_t1 L_t1
  clear O_t2 L_t2
  go_wp2_with fail
  refine (to_ratv _ zs0 _ (R0.out.below B.out) HN0.out HL0.out).mono ?_
  rintro e w6 ⟨v_t3, x_t3, rfl, o_t3, b6⟩
  have z6 := Lib.hid b6.size
  replace O_w_0 := Lib.hid (O_w_0.out.below b6)
  replace B := Lib.hid (B.out.trans (b6.mono B.out.size))
  have O_t3 := Lib.hid o_t3
  have L_t3 := Lib.hid o_t3.lt
  clear o_t3
  clear b6
  go_wp2_with fail
  refine (to_ratv _ zs1 _ (R1.out.below B.out) HN1.out HL1.out).mono ?_
  rintro e w7 ⟨v_t4, x_t4, rfl, o_t4, b7⟩
  have z7 := Lib.hid b7.size
  replace O_w_0 := Lib.hid (O_w_0.out.below b7)
  replace O_t3 := Lib.hid (O_t3.out.below b7)
  replace B := Lib.hid (B.out.trans (b7.mono B.out.size))
  have O_t4 := Lib.hid o_t4
  have L_t4 := Lib.hid o_t4.lt
  clear o_t4
  clear b7
  go_wp2_with fail
  refine (impl_addV _ zs0 _ zs1 _ O_t3.out.rats O_t4.out.rats).mono ?_
  rintro e w8 ⟨v_g_0, x_g_0, rfl, o_g_0, b8⟩
  have z8 := Lib.hid b8.size
  replace O_w_0 := Lib.hid (O_w_0.out.below b8)
  replace O_t3 := Lib.hid (O_t3.out.below b8)
  replace O_t4 := Lib.hid (O_t4.out.below b8)
  replace B := Lib.hid (B.out.trans (b8.mono B.out.size))
  have O_g_0 := Lib.hid o_g_0
  have L_g_0 := Lib.hid o_g_0.lt
  clear o_g_0
  clear b8
  go_wp2_with fail
  refine (eq_ratv _ _ _ _ O_g_0.out.rats O_w_0.out.rats HAN.out).mono ?_
  rintro e w9 ⟨rfl, b9⟩
  have z9 := Lib.hid b9.size
  replace O_w_0 := Lib.hid (O_w_0.out.below b9)
  replace O_t3 := Lib.hid (O_t3.out.below b9)
  replace O_t4 := Lib.hid (O_t4.out.below b9)
  replace O_g_0 := Lib.hid (O_g_0.out.below b9)
  replace B := Lib.hid (B.out.trans (b9.mono B.out.size))
  clear b9
  go_wp2_with fail
  refine (to_ratv _ zs0 _ (R0.out.below B.out) HN0.out HL0.out).mono ?_
  rintro e w10 ⟨v_t5, x_t5, rfl, o_t5, b10⟩
  have z10 := Lib.hid b10.size
  replace O_w_0 := Lib.hid (O_w_0.out.below b10)
  replace O_t3 := Lib.hid (O_t3.out.below b10)
  replace O_t4 := Lib.hid (O_t4.out.below b10)
  replace O_g_0 := Lib.hid (O_g_0.out.below b10)
  replace B := Lib.hid (B.out.trans (b10.mono B.out.size))
  have O_t5 := Lib.hid o_t5
  have L_t5 := Lib.hid o_t5.lt
  clear o_t5
  clear b10
  go_wp2_with fail
  refine (eq_ratv _ _ _ _ O_t3.out.rats O_t5.out.rats HN0.out).mono ?_
  rintro e w11 ⟨rfl, b11⟩
  have z11 := Lib.hid b11.size
  replace O_w_0 := Lib.hid (O_w_0.out.below b11)
  replace O_t3 := Lib.hid (O_t3.out.below b11)
  replace O_t4 := Lib.hid (O_t4.out.below b11)
  replace O_g_0 := Lib.hid (O_g_0.out.below b11)
  replace O_t5 := Lib.hid (O_t5.out.below b11)
  replace B := Lib.hid (B.out.trans (b11.mono B.out.size))
  clear b11
  clear O_t5 L_t5
  go_wp2_with fail
  refine (to_ratv _ zs1 _ (R1.out.below B.out) HN1.out HL1.out).mono ?_
  rintro e w12 ⟨v_t6, x_t6, rfl, o_t6, b12⟩
  have z12 := Lib.hid b12.size
  replace O_w_0 := Lib.hid (O_w_0.out.below b12)
  replace O_t3 := Lib.hid (O_t3.out.below b12)
  replace O_t4 := Lib.hid (O_t4.out.below b12)
  replace O_g_0 := Lib.hid (O_g_0.out.below b12)
  replace B := Lib.hid (B.out.trans (b12.mono B.out.size))
  have O_t6 := Lib.hid o_t6
  have L_t6 := Lib.hid o_t6.lt
  clear o_t6
  clear b12
  go_wp2_with fail
  refine (eq_ratv _ _ _ _ O_t4.out.rats O_t6.out.rats HN1.out).mono ?_
  rintro e w13 ⟨rfl, b13⟩
  have z13 := Lib.hid b13.size
  replace O_w_0 := Lib.hid (O_w_0.out.below b13)
  replace O_t3 := Lib.hid (O_t3.out.below b13)
  replace O_t4 := Lib.hid (O_t4.out.below b13)
  replace O_g_0 := Lib.hid (O_g_0.out.below b13)
  replace O_t6 := Lib.hid (O_t6.out.below b13)
  replace B := Lib.hid (B.out.trans (b13.mono B.out.size))
  clear b13
  clear O_t6 L_t6
  go_wp2_with fail
  refine (mark_ratv _ (1) _ zs0 _ _ _ (by simp) O_t3.out (by have := HC0.out; have := HC1.out; omega) (by have := HN0.out; omega)).mono ?_
  rintro e w14 ⟨rfl, o14, b14⟩
  have z14 := Lib.hid b14.size
  replace O_w_0 := Lib.hid (O_w_0.out.kept b14 (fun k hk hs => by have := L_w_0.out k hk; have := L_t3.out k hs; have := z1.out; have := z2.out; have := z3.out; have := z4.out; have := z5.out; have := z6.out; have := z7.out; have := z8.out; have := z9.out; have := z10.out; have := z11.out; have := z12.out; have := z13.out; omega))
  replace O_t3 := Lib.hid o14
  replace O_t4 := Lib.hid (O_t4.out.kept b14 (fun k hk hs => by have := L_t4.out k hk; have := L_t3.out k hs; have := z1.out; have := z2.out; have := z3.out; have := z4.out; have := z5.out; have := z6.out; have := z7.out; have := z8.out; have := z9.out; have := z10.out; have := z11.out; have := z12.out; have := z13.out; omega))
  replace O_g_0 := Lib.hid (O_g_0.out.kept b14 (fun k hk hs => by have := L_g_0.out k hk; have := L_t3.out k hs; have := z1.out; have := z2.out; have := z3.out; have := z4.out; have := z5.out; have := z6.out; have := z7.out; have := z8.out; have := z9.out; have := z10.out; have := z11.out; have := z12.out; have := z13.out; omega))
  replace B := Lib.hid (below_kept B.out b14 B.out.size (fun k hk => by have := L_t3.out k hk; have := z1.out; have := z2.out; have := z3.out; have := z4.out; have := z5.out; have := z6.out; have := z7.out; have := z8.out; have := z9.out; have := z10.out; have := z11.out; have := z12.out; have := z13.out; have := B.out.size; omega))
  clear o14
  clear b14
  go_wp2_with fail
  refine (mark_ratv _ (1 + cntL zs0) _ zs1 _ _ _ (by simp) O_t4.out (by have := HC0.out; have := HC1.out; omega) (by have := HN1.out; omega)).mono ?_
  rintro e w15 ⟨rfl, o15, b15⟩
  have z15 := Lib.hid b15.size
  replace O_w_0 := Lib.hid (O_w_0.out.kept b15 (fun k hk hs => by have := L_w_0.out k hk; have := L_t4.out k hs; have := z1.out; have := z2.out; have := z3.out; have := z4.out; have := z5.out; have := z6.out; have := z7.out; have := z8.out; have := z9.out; have := z10.out; have := z11.out; have := z12.out; have := z13.out; have := z14.out; omega))
  replace O_t3 := Lib.hid (O_t3.out.kept b15 (fun k hk hs => by have := L_t3.out k hk; have := L_t4.out k hs; have := z1.out; have := z2.out; have := z3.out; have := z4.out; have := z5.out; have := z6.out; have := z7.out; have := z8.out; have := z9.out; have := z10.out; have := z11.out; have := z12.out; have := z13.out; have := z14.out; omega))
  replace O_t4 := Lib.hid o15
  replace O_g_0 := Lib.hid (O_g_0.out.kept b15 (fun k hk hs => by have := L_g_0.out k hk; have := L_t4.out k hs; have := z1.out; have := z2.out; have := z3.out; have := z4.out; have := z5.out; have := z6.out; have := z7.out; have := z8.out; have := z9.out; have := z10.out; have := z11.out; have := z12.out; have := z13.out; have := z14.out; omega))
  replace B := Lib.hid (below_kept B.out b15 B.out.size (fun k hk => by have := L_t4.out k hk; have := z1.out; have := z2.out; have := z3.out; have := z4.out; have := z5.out; have := z6.out; have := z7.out; have := z8.out; have := z9.out; have := z10.out; have := z11.out; have := z12.out; have := z13.out; have := z14.out; have := B.out.size; omega))
  clear o15
  clear b15
  clear O_t3 L_t3
  clear O_t4 L_t4
  go_wp2_with fail
  refine (eq_ratv _ _ _ _ O_g_0.out.rats O_w_0.out.rats HAN.out).mono ?_
  rintro e w16 ⟨rfl, b16⟩
  have z16 := Lib.hid b16.size
  replace O_w_0 := Lib.hid (O_w_0.out.below b16)
  replace O_g_0 := Lib.hid (O_g_0.out.below b16)
  replace B := Lib.hid (B.out.trans (b16.mono B.out.size))
  clear b16
  go_wp2_with fail
  refine (mark_ratv _ (1) _ (zipL addX zs0 zs1) _ _ _ (by simp) O_g_0.out (by have := HA.out; omega) (by have := HAN.out; omega)).mono ?_
  rintro e w17 ⟨rfl, o17, b17⟩
  have z17 := Lib.hid b17.size
  replace O_w_0 := Lib.hid (O_w_0.out.kept b17 (fun k hk hs => by have := L_w_0.out k hk; have := L_g_0.out k hs; have := z1.out; have := z2.out; have := z3.out; have := z4.out; have := z5.out; have := z6.out; have := z7.out; have := z8.out; have := z9.out; have := z10.out; have := z11.out; have := z12.out; have := z13.out; have := z14.out; have := z15.out; have := z16.out; omega))
  replace O_g_0 := Lib.hid o17
  replace B := Lib.hid (below_kept B.out b17 B.out.size (fun k hk => by have := L_g_0.out k hk; have := z1.out; have := z2.out; have := z3.out; have := z4.out; have := z5.out; have := z6.out; have := z7.out; have := z8.out; have := z9.out; have := z10.out; have := z11.out; have := z12.out; have := z13.out; have := z14.out; have := z15.out; have := z16.out; have := B.out.size; omega))
  clear o17
  clear b17
  go_wp2_with fail
  refine (held_ratv _ (1) _ (zipL addX zs0 zs1) _ (by simp) O_g_0.out.rats (by have := HA.out; omega)).mono ?_
  rintro e w18 ⟨rfl, b18⟩
  have z18 := Lib.hid b18.size
  replace O_w_0 := Lib.hid (O_w_0.out.below b18)
  replace O_g_0 := Lib.hid (O_g_0.out.below b18)
  replace B := Lib.hid (B.out.trans (b18.mono B.out.size))
  clear b18
  go_wp2_with fail
  refine (to_ratv _ zs0 _ (R0.out.below B.out) HN0.out HL0.out).mono ?_
  rintro e w19 ⟨v_t7, x_t7, rfl, o_t7, b19⟩
  have z19 := Lib.hid b19.size
  replace O_w_0 := Lib.hid (O_w_0.out.below b19)
  replace O_g_0 := Lib.hid (O_g_0.out.below b19)
  replace B := Lib.hid (B.out.trans (b19.mono B.out.size))
  have O_t7 := Lib.hid o_t7
  have L_t7 := Lib.hid o_t7.lt
  clear o_t7
  clear b19
  go_wp2_with fail
  refine (to_ratv _ zs1 _ (R1.out.below B.out) HN1.out HL1.out).mono ?_
  rintro e w20 ⟨v_t8, x_t8, rfl, o_t8, b20⟩
  have z20 := Lib.hid b20.size
  replace O_w_0 := Lib.hid (O_w_0.out.below b20)
  replace O_g_0 := Lib.hid (O_g_0.out.below b20)
  replace O_t7 := Lib.hid (O_t7.out.below b20)
  replace B := Lib.hid (B.out.trans (b20.mono B.out.size))
  have O_t8 := Lib.hid o_t8
  have L_t8 := Lib.hid o_t8.lt
  clear o_t8
  clear b20
  go_wp2_with fail
  refine (impl_addV _ zs0 _ zs1 _ O_t7.out.rats O_t8.out.rats).mono ?_
  rintro e w21 ⟨v_h_0, x_h_0, rfl, o_h_0, b21⟩
  have z21 := Lib.hid b21.size
  replace O_w_0 := Lib.hid (O_w_0.out.below b21)
  replace O_g_0 := Lib.hid (O_g_0.out.below b21)
  replace O_t7 := Lib.hid (O_t7.out.below b21)
  replace O_t8 := Lib.hid (O_t8.out.below b21)
  replace B := Lib.hid (B.out.trans (b21.mono B.out.size))
  have O_h_0 := Lib.hid o_h_0
  have L_h_0 := Lib.hid o_h_0.lt
  clear o_h_0
  clear b21
  clear O_t7 L_t7
  clear O_t8 L_t8
  go_wp2_with fail
  refine (eq_ratv _ _ _ _ O_h_0.out.rats O_w_0.out.rats HAN.out).mono ?_
  rintro e w22 ⟨rfl, b22⟩
  have z22 := Lib.hid b22.size
  replace O_w_0 := Lib.hid (O_w_0.out.below b22)
  replace O_g_0 := Lib.hid (O_g_0.out.below b22)
  replace O_h_0 := Lib.hid (O_h_0.out.below b22)
  replace B := Lib.hid (B.out.trans (b22.mono B.out.size))
  clear b22
  go_wp2_with fail
  refine (held_ratv _ (1) _ (zipL addX zs0 zs1) _ (by simp) O_g_0.out.rats (by have := HA.out; omega)).mono ?_
  rintro e w23 ⟨rfl, b23⟩
  have z23 := Lib.hid b23.size
  replace O_w_0 := Lib.hid (O_w_0.out.below b23)
  replace O_g_0 := Lib.hid (O_g_0.out.below b23)
  replace O_h_0 := Lib.hid (O_h_0.out.below b23)
  replace B := Lib.hid (B.out.trans (b23.mono B.out.size))
  clear b23
  go_wp2
  go_ret
  exact ⟨rfl, B.out⟩


end Go.Proofs.Ytdajldenjeanhaa
