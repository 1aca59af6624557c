/- The exact law of FormatVector. -/
import Derived.Test.YtdajldenjeanhaaGreatDoorVecFmt
import Derived.Test.YtdajldenjeanhaaGreatDoorVecs
import Derived.Test.YtdajldenjeanhaaGreatDoorRatsIn
import Derived.Deep.CutBlock
import Derived.Deep.CutRange
import Derived.Deep.RegionHeld3
namespace Go.Proofs.YtdajldenjeanhaaGreatDoor
open Go.RowKit Go.WideShapes Go.ChangeShapes
set_option linter.unusedVariables false
set_option linter.unusedSimpArgs false
set_option maxHeartbeats 2000000 in
theorem law_formatVector (W : World) (tab : Lib.TabIs Tryz.prog W "internal/strconv.uint64pow10" .u64 Lib.pow10Tab) (v0 : Value) (zs0 : List Fr) (h0 : RatsAt W v0 zs0) (_ : True) :
    Calls Tryz.prog 3 #[v0] W fun e w' => e = .returned (.bool true) ∧ Below W.heap.size W w' := by
  have HFtab := Lib.hid tab
  clear tab
  have R0 := Lib.hid h0
  clear h0
  by_cases hs0 : (zs0.length : Int) + szL zs0 ≤ 1048576
  rotate_left
  · go_enter Tryz.func3, Tryz.ntmps3
    go_wp2_with fail
    refine (sz_ratv_no _ zs0 _ _ R0.out (by omega) (by omega)).mono ?_
    rintro e w1 ⟨rfl, b1⟩
    have z1 := Lib.hid b1.size
    have B := Lib.hid b1
    clear b1
    go_wp2
    go_ret
    exact ⟨rfl, B.out⟩
  have HL0 := Lib.hid (show ∀ f ∈ zs0, f.mag.length ≤ 1099511627776 ∧ f.den.length ≤ 1099511627776 from fun f hf => by have := szL_mem hf; omega)
  have HN0 := Lib.hid (show zs0.length ≤ 1048576 by omega)
  have HC0 := Lib.hid (show cntL zs0 ≤ 1048576 by unfold cntL; omega)
  obtain ⟨TX, hTX⟩ : ∃ x, x = vecT zs0 := ⟨_, rfl⟩
  have HT := Lib.hid hTX
  clear hTX
  go_enter Tryz.func3, Tryz.ntmps3
  go_wp2_with fail
  refine (sz_ratv_yes _ zs0 _ _ R0.out (by omega) (by omega)).mono ?_
  rintro e w1 ⟨rfl, b1⟩
  have z1 := Lib.hid b1.size
  have B := Lib.hid b1
  clear b1
  go_wp2_with fail
  refine (to_ratv _ zs0 _ (R0.out.below B.out) HN0.out HL0.out).mono ?_
  rintro e w2 ⟨v_t1, x_t1, rfl, o_t1, b2⟩
  have z2 := Lib.hid b2.size
  replace B := Lib.hid (B.out.trans (b2.mono B.out.size))
  have O_t1 := Lib.hid o_t1
  have L_t1 := Lib.hid o_t1.lt
  clear o_t1
  clear b2
  go_wp2_with fail
  have hc9 := spec_formatV _ zs0 _ O_t1.out.rats
  rw [← HT.out] at hc9
  refine (hc9).mono ?_
  rintro e w3 ⟨rfl, b3⟩
  have z3 := Lib.hid b3.size
  replace O_t1 := Lib.hid (O_t1.out.below b3)
  replace B := Lib.hid (B.out.trans (b3.mono B.out.size))
  clear b3
  clear O_t1 L_t1
  go_wp2_with fail
  refine (to_ratv _ zs0 _ (R0.out.below B.out) HN0.out HL0.out).mono ?_
  rintro e w4 ⟨v_t2, x_t2, rfl, o_t2, b4⟩
  have z4 := Lib.hid b4.size
  replace B := Lib.hid (B.out.trans (b4.mono B.out.size))
  have O_t2 := Lib.hid o_t2
  have L_t2 := Lib.hid o_t2.lt
  clear o_t2
  clear b4
  go_wp2_with fail
  have hc9 := impl_formatV _ zs0 _ (tab_below B.out HFtab.out) O_t2.out.rats
  rw [← HT.out] at hc9
  refine (hc9).mono ?_
  rintro e w5 ⟨rfl, b5⟩
  have z5 := Lib.hid b5.size
  replace O_t2 := Lib.hid (O_t2.out.below b5)
  replace B := Lib.hid (B.out.trans (b5.mono B.out.size))
  clear b5
  go_wp2_with fail
  refine (to_ratv _ zs0 _ (R0.out.below B.out) HN0.out HL0.out).mono ?_
  rintro e w6 ⟨v_t3, x_t3, rfl, o_t3, b6⟩
  have z6 := Lib.hid b6.size
  replace O_t2 := Lib.hid (O_t2.out.below b6)
  replace B := Lib.hid (B.out.trans (b6.mono B.out.size))
  have O_t3 := Lib.hid o_t3
  have L_t3 := Lib.hid o_t3.lt
  clear o_t3
  clear b6
  go_wp2_with fail
  refine (eq_ratv _ _ _ _ O_t2.out.rats O_t3.out.rats HN0.out).mono ?_
  rintro e w7 ⟨rfl, b7⟩
  have z7 := Lib.hid b7.size
  replace O_t2 := Lib.hid (O_t2.out.below b7)
  replace O_t3 := Lib.hid (O_t3.out.below b7)
  replace B := Lib.hid (B.out.trans (b7.mono B.out.size))
  clear b7
  clear O_t3 L_t3
  go_wp2
  go_ret
  exact ⟨rfl, B.out⟩


end Go.Proofs.YtdajldenjeanhaaGreatDoor
