/- The exact law of ParseRat. -/
import Derived.Test.YtgoonbjhfbnaiaaGreatDoorParseRat
import Derived.Deep.CutBlock
import Derived.Deep.CutRange
import Derived.Deep.RegionHeld3
namespace Go.Proofs.YtgoonbjhfbnaiaaGreatDoor
open Go.RowKit Go.WideShapes Go.ChangeShapes
set_option linter.unusedVariables false
set_option linter.unusedSimpArgs false
set_option maxRecDepth 100000
set_option maxHeartbeats 4000000 in
theorem law_parseRat (W : World) (s0 : ByteArray) (hs0 : s0.size ≤ maxLen) :
    Calls Tryz.prog 3 #[.string s0] W fun e w' => e = .returned (.bool true) ∧ Below W.heap.size W w' := by
  unfold maxLen at hs0
  by_cases hl0 : s0.size ≤ 1048576
  rotate_left
  · have hgt : decide ((1048576 : Int) < (s0.size : Int)) = true := by simp; omega
    go_enter Tryz.func3, Tryz.ntmps3
    go_wp2
    go_ret
    exact ⟨rfl, Below.refl _ _⟩
  have hgt : decide ((1048576 : Int) < (s0.size : Int)) = false := by simp; omega
  have HX0 := Lib.hid hl0
  clear hl0 hs0
  go_enter Tryz.func3, Tryz.ntmps3
  go_wp2_with fail
  obtain ⟨W0, hW0⟩ : ∃ x, x = W := ⟨_, rfl⟩
  have B := Lib.hid (show Below W.heap.size W W0 by rw [hW0]; exact Below.refl W.heap.size W)
  rw [← hW0]
  clear hW0
  have z_s := Lib.hid (show W.heap.size ≤ W0.heap.size from B.out.size)
  refine (spec_ratParse s0 _ HX0.out).mono ?_
  rintro e w1 ⟨v_w0, d_w0, rfl, o_w0, bw1⟩
  obtain ⟨a_w0, c_w0, e_w0, f_w0, rfl, rfl⟩ := o_w0.slices
  replace B := Lib.hid (B.out.trans (bw1.mono B.out.size))
  have z_w1 := Lib.hid bw1.size
  have O_w0 := Lib.hid o_w0
  have L_w0 := Lib.hid o_w0.lt
  clear o_w0
  clear bw1
  have hz := B.out.size
  go_wp2_with fail
  clear hz
  obtain ⟨w2, hW0⟩ : ∃ x, x = w1.alloc (.cells #[.bool (prB s0), .slice a_w0 (prZ s0).length c_w0, .slice e_w0 (prD s0).length f_w0] 26) := ⟨_, rfl⟩
  replace O_w0 := Lib.hid (show OwnR w2 _ _ _ _ _ by rw [hW0]; exact O_w0.out.alloc _)
  have D_w0 := Lib.hid (show Rx w2 w1.heap.size 26 (prB s0) (.slice a_w0 (prZ s0).length c_w0) (.slice e_w0 (prD s0).length f_w0) by rw [hW0]; exact Rx.new _ _ _ _ _)
  replace B := Lib.hid (show Below W.heap.size W w2 by rw [hW0]; exact B.out.alloc B.out.size _)
  have z_w2 := Lib.hid (show w1.heap.size ≤ w2.heap.size by rw [hW0]; simp)
  rw [← hW0]
  clear hW0
  refine (impl_ratParse s0 _ HX0.out).mono ?_
  rintro e w3 ⟨v_g0, d_g0, rfl, o_g0, bw3⟩
  obtain ⟨a_g0, c_g0, e_g0, f_g0, rfl, rfl⟩ := o_g0.slices
  replace O_w0 := Lib.hid (O_w0.out.below bw3)
  replace D_w0 := Lib.hid (D_w0.out.below bw3)
  replace B := Lib.hid (B.out.trans (bw3.mono B.out.size))
  have z_w3 := Lib.hid bw3.size
  have O_g0 := Lib.hid o_g0
  have L_g0 := Lib.hid o_g0.lt
  clear o_g0
  clear bw3
  have c0_w0 := D_w0.out.c0
  have c1_w0 := D_w0.out.c1
  have c2_w0 := D_w0.out.c2
  have lt_w0 := D_w0.out.lt
  have hz := B.out.size
  go_wp2_with fail
  clear c0_w0 c1_w0 c2_w0 lt_w0
  clear hz
  obtain ⟨w4, hW0⟩ : ∃ x, x = w3.alloc (.cells #[.bool (prB s0), .slice a_g0 (prZ s0).length c_g0, .slice e_g0 (prD s0).length f_g0] 26) := ⟨_, rfl⟩
  replace O_w0 := Lib.hid (show OwnR w4 _ _ _ _ _ by rw [hW0]; exact O_w0.out.alloc _)
  replace O_g0 := Lib.hid (show OwnR w4 _ _ _ _ _ by rw [hW0]; exact O_g0.out.alloc _)
  replace D_w0 := Lib.hid (show Rx w4 _ _ _ _ _ by rw [hW0]; exact D_w0.out.alloc _)
  have D_g0 := Lib.hid (show Rx w4 w3.heap.size 26 (prB s0) (.slice a_g0 (prZ s0).length c_g0) (.slice e_g0 (prD s0).length f_g0) by rw [hW0]; exact Rx.new _ _ _ _ _)
  replace B := Lib.hid (show Below W.heap.size W w4 by rw [hW0]; exact B.out.alloc B.out.size _)
  have z_w4 := Lib.hid (show w3.heap.size ≤ w4.heap.size by rw [hW0]; simp)
  rw [← hW0]
  clear hW0
  refine (eq_ratsR _ _ _ _ _ _ _ O_g0.out.row O_w0.out.row).mono ?_
  rintro e w5 ⟨rfl, bw5⟩
  replace O_w0 := Lib.hid (O_w0.out.below bw5)
  replace O_g0 := Lib.hid (O_g0.out.below bw5)
  replace D_w0 := Lib.hid (D_w0.out.below bw5)
  replace D_g0 := Lib.hid (D_g0.out.below bw5)
  replace B := Lib.hid (B.out.trans (bw5.mono B.out.size))
  have z_w5 := Lib.hid bw5.size
  clear bw5
  have hlz := Lib.hid (prZ_len s0)
  have hld := Lib.hid (prD_len s0)
  have hqz : (prZ s0).length ≤ 1000 := hlz.out
  have hqd : (prD s0).length ≤ 1000 := hld.out
  have c0_g0 := D_g0.out.c0
  have c1_g0 := D_g0.out.c1
  have c2_g0 := D_g0.out.c2
  go_wp2_with fail
  clear c0_g0 c1_g0 c2_g0
  refine (mark_rats _ _ (1) _ _ _ _ _ (by simp) O_g0.out (by omega)).mono ?_
  rintro e w6 ⟨rfl, om, gw⟩
  have z_w6 := Lib.hid gw.size
  replace D_w0 := Lib.hid (D_w0.out.marked2 O_g0.out (by decide) gw)
  replace D_g0 := Lib.hid (D_g0.out.marked2 O_g0.out (by decide) gw)
  replace O_w0 := Lib.hid (O_w0.out.other2 gw (fun g g' e1 e2 => by have := L_w0.out g e1; have := L_g0.out g' e2; have := z_s.out; have := z_w1.out; have := z_w2.out; have := z_w3.out; have := z_w4.out; have := z_w5.out; omega))
  replace B := Lib.hid (below_grown2 B.out gw B.out.size (fun g hg => by have := L_g0.out g hg; have := z_s.out; have := z_w1.out; have := z_w2.out; have := z_w3.out; have := z_w4.out; have := z_w5.out; have := B.out.size; omega))
  replace O_g0 := Lib.hid om
  clear om gw
  have c0_g0 := D_g0.out.c0
  have c1_g0 := D_g0.out.c1
  have c2_g0 := D_g0.out.c2
  go_wp2_with fail
  clear c0_g0 c1_g0 c2_g0
  refine (held_ratsR _ _ (prZ s0).length (prD s0).length 1 _ _ (by simp) O_g0.out.row (by omega)).mono ?_
  rintro e w7 ⟨rfl, bw7⟩
  replace O_w0 := Lib.hid (O_w0.out.below bw7)
  replace O_g0 := Lib.hid (O_g0.out.below bw7)
  replace D_w0 := Lib.hid (D_w0.out.below bw7)
  replace D_g0 := Lib.hid (D_g0.out.below bw7)
  replace B := Lib.hid (B.out.trans (bw7.mono B.out.size))
  have z_w7 := Lib.hid bw7.size
  clear bw7
  go_wp2_with fail
  refine (impl_ratParse s0 _ HX0.out).mono ?_
  rintro e w8 ⟨v_h0, d_h0, rfl, o_h0, bw8⟩
  obtain ⟨a_h0, c_h0, e_h0, f_h0, rfl, rfl⟩ := o_h0.slices
  replace O_w0 := Lib.hid (O_w0.out.below bw8)
  replace O_g0 := Lib.hid (O_g0.out.below bw8)
  replace D_w0 := Lib.hid (D_w0.out.below bw8)
  replace D_g0 := Lib.hid (D_g0.out.below bw8)
  replace B := Lib.hid (B.out.trans (bw8.mono B.out.size))
  have z_w8 := Lib.hid bw8.size
  have O_h0 := Lib.hid o_h0
  have L_h0 := Lib.hid o_h0.lt
  clear o_h0
  clear bw8
  have c0_w0 := D_w0.out.c0
  have c1_w0 := D_w0.out.c1
  have c2_w0 := D_w0.out.c2
  have lt_w0 := D_w0.out.lt
  have hz := B.out.size
  go_wp2_with fail
  clear c0_w0 c1_w0 c2_w0 lt_w0
  clear hz
  obtain ⟨w9, hW0⟩ : ∃ x, x = w8.alloc (.cells #[.bool (prB s0), .slice a_h0 (prZ s0).length c_h0, .slice e_h0 (prD s0).length f_h0] 26) := ⟨_, rfl⟩
  replace O_w0 := Lib.hid (show OwnR w9 _ _ _ _ _ by rw [hW0]; exact O_w0.out.alloc _)
  replace O_g0 := Lib.hid (show OwnR w9 _ _ _ _ _ by rw [hW0]; exact O_g0.out.alloc _)
  replace O_h0 := Lib.hid (show OwnR w9 _ _ _ _ _ by rw [hW0]; exact O_h0.out.alloc _)
  replace D_w0 := Lib.hid (show Rx w9 _ _ _ _ _ by rw [hW0]; exact D_w0.out.alloc _)
  replace D_g0 := Lib.hid (show Rx w9 _ _ _ _ _ by rw [hW0]; exact D_g0.out.alloc _)
  have D_h0 := Lib.hid (show Rx w9 w8.heap.size 26 (prB s0) (.slice a_h0 (prZ s0).length c_h0) (.slice e_h0 (prD s0).length f_h0) by rw [hW0]; exact Rx.new _ _ _ _ _)
  replace B := Lib.hid (show Below W.heap.size W w9 by rw [hW0]; exact B.out.alloc B.out.size _)
  have z_w9 := Lib.hid (show w8.heap.size ≤ w9.heap.size by rw [hW0]; simp)
  rw [← hW0]
  clear hW0
  refine (eq_ratsR _ _ _ _ _ _ _ O_h0.out.row O_w0.out.row).mono ?_
  rintro e w10 ⟨rfl, bw10⟩
  replace O_w0 := Lib.hid (O_w0.out.below bw10)
  replace O_g0 := Lib.hid (O_g0.out.below bw10)
  replace O_h0 := Lib.hid (O_h0.out.below bw10)
  replace D_w0 := Lib.hid (D_w0.out.below bw10)
  replace D_g0 := Lib.hid (D_g0.out.below bw10)
  replace D_h0 := Lib.hid (D_h0.out.below bw10)
  replace B := Lib.hid (B.out.trans (bw10.mono B.out.size))
  have z_w10 := Lib.hid bw10.size
  clear bw10
  have c0_g0 := D_g0.out.c0
  have c1_g0 := D_g0.out.c1
  have c2_g0 := D_g0.out.c2
  go_wp2_with fail
  clear c0_g0 c1_g0 c2_g0
  refine (held_ratsR _ _ (prZ s0).length (prD s0).length 1 _ _ (by simp) O_g0.out.row (by omega)).mono ?_
  rintro e w11 ⟨rfl, bw11⟩
  replace O_w0 := Lib.hid (O_w0.out.below bw11)
  replace O_g0 := Lib.hid (O_g0.out.below bw11)
  replace O_h0 := Lib.hid (O_h0.out.below bw11)
  replace D_w0 := Lib.hid (D_w0.out.below bw11)
  replace D_g0 := Lib.hid (D_g0.out.below bw11)
  replace D_h0 := Lib.hid (D_h0.out.below bw11)
  replace B := Lib.hid (B.out.trans (bw11.mono B.out.size))
  have z_w11 := Lib.hid bw11.size
  clear bw11
  go_wp2
  go_ret
  exact ⟨rfl, B.out⟩


end Go.Proofs.YtgoonbjhfbnaiaaGreatDoor
