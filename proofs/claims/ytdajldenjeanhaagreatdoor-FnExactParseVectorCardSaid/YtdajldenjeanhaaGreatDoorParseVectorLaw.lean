/- The exact law of ParseVector. -/
import Derived.Test.YtdajldenjeanhaaGreatDoorVecParse
import Derived.Test.YtdajldenjeanhaaGreatDoorVecs
import Derived.Test.YtdajldenjeanhaaGreatDoorRatsIn
import Derived.Deep.CutBlock
import Derived.Deep.CutRange
import Derived.Deep.RegionHeld3
namespace Go.Proofs.YtdajldenjeanhaaGreatDoor
open Go.RowKit Go.WideShapes Go.ChangeShapes
set_option linter.unusedVariables false
set_option linter.unusedSimpArgs false
set_option maxHeartbeats 2000000 in
theorem law_parseVector (W : World) (s0 : ByteArray) (hs0 : s0.size ≤ maxLen) :
    Calls Tryz.prog 4 #[.string s0] W fun e w' => e = .returned (.bool true) ∧ Below W.heap.size W w' := by
  unfold maxLen at hs0
  by_cases hl0 : s0.size ≤ 1048576
  rotate_left
  · have hgt : decide ((1048576 : Int) < (s0.size : Int)) = true := by simp; omega
    go_enter Tryz.func4, Tryz.ntmps4
    go_wp2
    go_ret
    exact ⟨rfl, Below.refl _ _⟩
  have hgt : decide ((1048576 : Int) < (s0.size : Int)) = false := by simp; omega
  have HX0 := Lib.hid hl0
  clear hl0 hs0
  have HA := Lib.hid (show cntL (pvL s0) ≤ 100000 from pv_len s0)
  have HAN := Lib.hid (show (pvL s0).length ≤ 1048576 by have := HA.out; unfold cntL at this; omega)
  go_enter Tryz.func4, Tryz.ntmps4
  go_wp2_with fail
  refine (spec_parseV s0 _ HX0.out).mono ?_
  rintro e w1 ⟨v_w_0, x_w_0, rfl, o_w_0, b1⟩
  have z1 := Lib.hid b1.size
  have B := Lib.hid b1
  have O_w_0 := Lib.hid o_w_0
  have L_w_0 := Lib.hid o_w_0.lt
  clear o_w_0
  clear b1
  go_wp2_with fail
  refine (impl_parseV s0 _ HX0.out).mono ?_
  rintro e w2 ⟨v_g_0, x_g_0, rfl, o_g_0, b2⟩
  have z2 := Lib.hid b2.size
  replace O_w_0 := Lib.hid (O_w_0.out.below b2)
  replace B := Lib.hid (B.out.trans (b2.mono B.out.size))
  have O_g_0 := Lib.hid o_g_0
  have L_g_0 := Lib.hid o_g_0.lt
  clear o_g_0
  clear b2
  go_wp2_with fail
  refine (eq_ratv _ _ _ _ O_g_0.out.rats O_w_0.out.rats HAN.out).mono ?_
  rintro e w3 ⟨rfl, b3⟩
  have z3 := Lib.hid b3.size
  replace O_w_0 := Lib.hid (O_w_0.out.below b3)
  replace O_g_0 := Lib.hid (O_g_0.out.below b3)
  replace B := Lib.hid (B.out.trans (b3.mono B.out.size))
  clear b3
  go_wp2_with fail
  refine (mark_ratv _ (1) _ (pvL s0) _ _ _ (by simp) O_g_0.out (by have := HA.out; omega) (by have := HAN.out; omega)).mono ?_
  rintro e w4 ⟨rfl, o4, b4⟩
  have z4 := Lib.hid b4.size
  replace O_w_0 := Lib.hid (O_w_0.out.kept b4 (fun k hk hs => by have := L_w_0.out k hk; have := L_g_0.out k hs; have := z1.out; have := z2.out; have := z3.out; omega))
  replace O_g_0 := Lib.hid o4
  replace B := Lib.hid (below_kept B.out b4 B.out.size (fun k hk => by have := L_g_0.out k hk; have := z1.out; have := z2.out; have := z3.out; have := B.out.size; omega))
  clear o4
  clear b4
  go_wp2_with fail
  refine (held_ratv _ (1) _ (pvL s0) _ (by simp) O_g_0.out.rats (by have := HA.out; omega)).mono ?_
  rintro e w5 ⟨rfl, b5⟩
  have z5 := Lib.hid b5.size
  replace O_w_0 := Lib.hid (O_w_0.out.below b5)
  replace O_g_0 := Lib.hid (O_g_0.out.below b5)
  replace B := Lib.hid (B.out.trans (b5.mono B.out.size))
  clear b5
  go_wp2_with fail
  refine (impl_parseV s0 _ HX0.out).mono ?_
  rintro e w6 ⟨v_h_0, x_h_0, rfl, o_h_0, b6⟩
  have z6 := Lib.hid b6.size
  replace O_w_0 := Lib.hid (O_w_0.out.below b6)
  replace O_g_0 := Lib.hid (O_g_0.out.below b6)
  replace B := Lib.hid (B.out.trans (b6.mono B.out.size))
  have O_h_0 := Lib.hid o_h_0
  have L_h_0 := Lib.hid o_h_0.lt
  clear o_h_0
  clear b6
  go_wp2_with fail
  refine (eq_ratv _ _ _ _ O_h_0.out.rats O_w_0.out.rats HAN.out).mono ?_
  rintro e w7 ⟨rfl, b7⟩
  have z7 := Lib.hid b7.size
  replace O_w_0 := Lib.hid (O_w_0.out.below b7)
  replace O_g_0 := Lib.hid (O_g_0.out.below b7)
  replace O_h_0 := Lib.hid (O_h_0.out.below b7)
  replace B := Lib.hid (B.out.trans (b7.mono B.out.size))
  clear b7
  go_wp2_with fail
  refine (held_ratv _ (1) _ (pvL s0) _ (by simp) O_g_0.out.rats (by have := HA.out; omega)).mono ?_
  rintro e w8 ⟨rfl, b8⟩
  have z8 := Lib.hid b8.size
  replace O_w_0 := Lib.hid (O_w_0.out.below b8)
  replace O_g_0 := Lib.hid (O_g_0.out.below b8)
  replace O_h_0 := Lib.hid (O_h_0.out.below b8)
  replace B := Lib.hid (B.out.trans (b8.mono B.out.size))
  clear b8
  go_wp2
  go_ret
  exact ⟨rfl, B.out⟩


end Go.Proofs.YtdajldenjeanhaaGreatDoor
