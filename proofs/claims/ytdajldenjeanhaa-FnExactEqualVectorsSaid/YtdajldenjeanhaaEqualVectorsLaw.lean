/- The exact law of EqualVectors. -/
import Derived.Test.YtdajldenjeanhaaVecEq
import Derived.Test.YtdajldenjeanhaaRatEq2
import Derived.Test.YtdajldenjeanhaaRatsIn
import Derived.Deep.CutBlock
import Derived.Deep.CutRange
import Derived.Deep.RegionHeld3
namespace Go.Proofs.Ytdajldenjeanhaa
open Go.RowKit Go.WideShapes Go.ChangeShapes
set_option linter.unusedVariables false
set_option linter.unusedSimpArgs false
def eqF (f g : Fr) : Bool := ratEqB f.neg f.mag f.den g.neg g.mag g.den
theorem spec_equalVL (v0 : Value) (L0 : List Fr) (v1 : Value) (L1 : List Fr) (w : World) (h0 : RatsAt w v0 L0) (h1 : RatsAt w v1 L1) : Calls Try.prog 35 #[v0, v1] w fun e w' => e = .returned (.bool (eqV eqF L0 L1)) ∧ Below w.heap.size w w' :=
  spec_eqV eqF (fun f g v d v' d' w h h' => spec_ratEqualR f.neg v f.mag d f.den g.neg v' g.mag d' g.den w h h') v0 L0 v1 L1 w h0 h1
theorem impl_equalVL (v0 : Value) (L0 : List Fr) (v1 : Value) (L1 : List Fr) (w : World) (h0 : RatsAt w v0 L0) (h1 : RatsAt w v1 L1) : Calls Try.prog 36 #[v0, v1] w fun e w' => e = .returned (.bool (eqV eqF L0 L1)) ∧ Below w.heap.size w w' :=
  impl_equalV eqF (fun f g v d v' d' w h h' => impl_ratEqualR f.neg v f.mag d f.den g.neg v' g.mag d' g.den w h h') v0 L0 v1 L1 w h0 h1
set_option maxHeartbeats 2000000 in
theorem law_equalVectors (W : World) (v0 : Value) (zs0 : List Fr) (h0 : RatsAt W v0 zs0) (_ : True) (v1 : Value) (zs1 : List Fr) (h1 : RatsAt W v1 zs1) (_ : True) :
    Calls Try.prog 10 #[v0, v1] W fun e w' => e = .returned (.bool true) ∧ Below W.heap.size W w' := by
  have R0 := Lib.hid h0
  clear h0
  have R1 := Lib.hid h1
  clear h1
  by_cases hs0 : (zs0.length : Int) + szL zs0 ≤ 1048576
  rotate_left
  · go_enter Try.func10, Try.ntmps10
    go_wp2_with fail
    refine (sz_ratv_no _ zs0 _ _ R0.out (by omega) (by omega)).mono ?_
    rintro e w1 ⟨rfl, b1⟩
    have z1 := Lib.hid b1.size
    have B := Lib.hid b1
    clear b1
    go_wp2
    go_ret
    exact ⟨rfl, B.out⟩
  by_cases hs1 : (zs1.length : Int) + szL zs1 ≤ 1048576 - zs0.length - szL zs0
  rotate_left
  · go_enter Try.func10, Try.ntmps10
    go_wp2_with fail
    refine (sz_ratv_yes _ zs0 _ _ R0.out (by omega) (by omega)).mono ?_
    rintro e w1 ⟨rfl, b1⟩
    have z1 := Lib.hid b1.size
    have B := Lib.hid b1
    clear b1
    go_wp2_with fail
    refine (sz_ratv_no _ zs1 _ _ (R1.out.below B.out) (by omega) (by omega)).mono ?_
    rintro e w2 ⟨rfl, b2⟩
    have z2 := Lib.hid b2.size
    replace B := Lib.hid (B.out.trans (b2.mono B.out.size))
    clear b2
    go_wp2
    go_ret
    exact ⟨rfl, B.out⟩
  have HL0 := Lib.hid (show ∀ f ∈ zs0, f.mag.length ≤ 1099511627776 ∧ f.den.length ≤ 1099511627776 from fun f hf => by have := szL_mem hf; omega)
  have HN0 := Lib.hid (show zs0.length ≤ 1048576 by omega)
  have HC0 := Lib.hid (show cntL zs0 ≤ 1048576 by unfold cntL; omega)
  have HL1 := Lib.hid (show ∀ f ∈ zs1, f.mag.length ≤ 1099511627776 ∧ f.den.length ≤ 1099511627776 from fun f hf => by have := szL_mem hf; omega)
  have HN1 := Lib.hid (show zs1.length ≤ 1048576 by omega)
  have HC1 := Lib.hid (show cntL zs1 ≤ 1048576 by unfold cntL; omega)
  go_enter Try.func10, Try.ntmps10
  go_wp2_with fail
  refine (sz_ratv_yes _ zs0 _ _ R0.out (by omega) (by omega)).mono ?_
  rintro e w1 ⟨rfl, b1⟩
  have z1 := Lib.hid b1.size
  have B := Lib.hid b1
  clear b1
  go_wp2_with fail
  refine (sz_ratv_yes _ zs1 _ _ (R1.out.below B.out) (by omega) (by omega)).mono ?_
  rintro e w2 ⟨rfl, b2⟩
  have z2 := Lib.hid b2.size
  replace B := Lib.hid (B.out.trans (b2.mono B.out.size))
  clear b2
  go_wp2_with fail
  refine (to_ratv _ zs0 _ (R0.out.below B.out) HN0.out HL0.out).mono ?_
  rintro e w3 ⟨v_t1, x_t1, rfl, o_t1, b3⟩
  have z3 := Lib.hid b3.size
  replace B := Lib.hid (B.out.trans (b3.mono B.out.size))
  have O_t1 := Lib.hid o_t1
  have L_t1 := Lib.hid o_t1.lt
  clear o_t1
  clear b3
  go_wp2_with fail
  refine (to_ratv _ zs1 _ (R1.out.below B.out) HN1.out HL1.out).mono ?_
  rintro e w4 ⟨v_t2, x_t2, rfl, o_t2, b4⟩
  have z4 := Lib.hid b4.size
  replace O_t1 := Lib.hid (O_t1.out.below b4)
  replace B := Lib.hid (B.out.trans (b4.mono B.out.size))
  have O_t2 := Lib.hid o_t2
  have L_t2 := Lib.hid o_t2.lt
  clear o_t2
  clear b4
  go_wp2_with fail
  refine (spec_equalVL _ zs0 _ zs1 _ O_t1.out.rats O_t2.out.rats).mono ?_
  rintro e w5 ⟨rfl, b5⟩
  have z5 := Lib.hid b5.size
  replace O_t1 := Lib.hid (O_t1.out.below b5)
  replace O_t2 := Lib.hid (O_t2.out.below b5)
  replace B := Lib.hid (B.out.trans (b5.mono B.out.size))
  clear b5
  clear O_t1 L_t1
  clear O_t2 L_t2
  go_wp2_with fail
  refine (to_ratv _ zs0 _ (R0.out.below B.out) HN0.out HL0.out).mono ?_
  rintro e w6 ⟨v_t3, x_t3, rfl, o_t3, b6⟩
  have z6 := Lib.hid b6.size
  replace B := Lib.hid (B.out.trans (b6.mono B.out.size))
  have O_t3 := Lib.hid o_t3
  have L_t3 := Lib.hid o_t3.lt
  clear o_t3
  clear b6
  go_wp2_with fail
  refine (to_ratv _ zs1 _ (R1.out.below B.out) HN1.out HL1.out).mono ?_
  rintro e w7 ⟨v_t4, x_t4, rfl, o_t4, b7⟩
  have z7 := Lib.hid b7.size
  replace O_t3 := Lib.hid (O_t3.out.below b7)
  replace B := Lib.hid (B.out.trans (b7.mono B.out.size))
  have O_t4 := Lib.hid o_t4
  have L_t4 := Lib.hid o_t4.lt
  clear o_t4
  clear b7
  go_wp2_with fail
  refine (impl_equalVL _ zs0 _ zs1 _ O_t3.out.rats O_t4.out.rats).mono ?_
  rintro e w8 ⟨rfl, b8⟩
  have z8 := Lib.hid b8.size
  replace O_t3 := Lib.hid (O_t3.out.below b8)
  replace O_t4 := Lib.hid (O_t4.out.below b8)
  replace B := Lib.hid (B.out.trans (b8.mono B.out.size))
  clear b8
  go_wp2_with fail
  refine (to_ratv _ zs0 _ (R0.out.below B.out) HN0.out HL0.out).mono ?_
  rintro e w9 ⟨v_t5, x_t5, rfl, o_t5, b9⟩
  have z9 := Lib.hid b9.size
  replace O_t3 := Lib.hid (O_t3.out.below b9)
  replace O_t4 := Lib.hid (O_t4.out.below b9)
  replace B := Lib.hid (B.out.trans (b9.mono B.out.size))
  have O_t5 := Lib.hid o_t5
  have L_t5 := Lib.hid o_t5.lt
  clear o_t5
  clear b9
  go_wp2_with fail
  refine (eq_ratv _ _ _ _ O_t3.out.rats O_t5.out.rats HN0.out).mono ?_
  rintro e w10 ⟨rfl, b10⟩
  have z10 := Lib.hid b10.size
  replace O_t3 := Lib.hid (O_t3.out.below b10)
  replace O_t4 := Lib.hid (O_t4.out.below b10)
  replace O_t5 := Lib.hid (O_t5.out.below b10)
  replace B := Lib.hid (B.out.trans (b10.mono B.out.size))
  clear b10
  clear O_t5 L_t5
  go_wp2_with fail
  refine (to_ratv _ zs1 _ (R1.out.below B.out) HN1.out HL1.out).mono ?_
  rintro e w11 ⟨v_t6, x_t6, rfl, o_t6, b11⟩
  have z11 := Lib.hid b11.size
  replace O_t3 := Lib.hid (O_t3.out.below b11)
  replace O_t4 := Lib.hid (O_t4.out.below b11)
  replace B := Lib.hid (B.out.trans (b11.mono B.out.size))
  have O_t6 := Lib.hid o_t6
  have L_t6 := Lib.hid o_t6.lt
  clear o_t6
  clear b11
  go_wp2_with fail
  refine (eq_ratv _ _ _ _ O_t4.out.rats O_t6.out.rats HN1.out).mono ?_
  rintro e w12 ⟨rfl, b12⟩
  have z12 := Lib.hid b12.size
  replace O_t3 := Lib.hid (O_t3.out.below b12)
  replace O_t4 := Lib.hid (O_t4.out.below b12)
  replace O_t6 := Lib.hid (O_t6.out.below b12)
  replace B := Lib.hid (B.out.trans (b12.mono B.out.size))
  clear b12
  clear O_t6 L_t6
  go_wp2
  go_ret
  exact ⟨rfl, B.out⟩


end Go.Proofs.Ytdajldenjeanhaa
