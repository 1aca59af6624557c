/- The exact law of FormatRat. -/
import Derived.Test.YtgoonbjhfbnaiaaDoorRatFmt
import Derived.Deep.CutBlock
import Derived.Deep.CutRange
import Derived.Deep.RegionHeld3
namespace Go.Proofs.YtgoonbjhfbnaiaaDoor
open Go.RowKit Go.WideShapes Go.ChangeShapes
set_option linter.unusedVariables false
set_option linter.unusedSimpArgs false
set_option maxRecDepth 100000
set_option maxHeartbeats 4000000 in
theorem law_formatRat (W : World) (tab : Lib.TabIs Tryd.prog W "internal/strconv.uint64pow10" .u64 Lib.pow10Tab) (ng0 : Bool) (v0 : Value) (zs0 : List Int) (h0 : RowOf iV W v0 zs0) (d0 : Value) (ds0 : List Int) (k0 : RowOf iV W d0 ds0) (_ : True) :
    Calls Tryd.prog 3 #[.agg #[.bool ng0, v0, d0]] W fun e w' => e = .returned (.bool true) ∧ Below W.heap.size W w' := by
  have HFtab := Lib.hid tab
  clear tab
  have R0 := Lib.hid (show RowR W v0 zs0 d0 ds0 from ⟨h0, k0⟩)
  obtain ⟨a0, c0, rfl, hc0, hm0, hr0⟩ := h0
  obtain ⟨e0, f0, rfl, kc0, km0, kr0⟩ := k0
  clear hr0 kr0
  unfold maxLen at hm0 km0
  obtain ⟨m0, hm0'⟩ : ∃ n, zs0.length = n := ⟨_, rfl⟩
  obtain ⟨p0, hp0'⟩ : ∃ n, ds0.length = n := ⟨_, rfl⟩
  rw [hm0'] at hc0 R0 ⊢
  rw [hp0'] at kc0 R0 ⊢
  have N0 := Lib.hid (And.intro hm0' hp0')
  clear hm0' hp0'
  by_cases hl0 : m0 + p0 ≤ 1048576
  rotate_left
  · go_enter Tryd.func3, Tryd.ntmps3
    go_wp2_with fail
    obtain ⟨W0, hW0⟩ : ∃ x, x = (W.alloc (.cells #[.bool ng0, .slice a0 m0 c0, .slice e0 p0 f0] 26)) := ⟨_, rfl⟩
    have B := Lib.hid (show Below W.heap.size W W0 by rw [hW0]; exact (Below.refl W.heap.size W).alloc (Nat.le_refl _) (.cells #[.bool ng0, .slice a0 m0 c0, .slice e0 p0 f0] 26))
    have D_a0 := Lib.hid (rx_at (show Rx W0 _ 26 ng0 (.slice a0 m0 c0) (.slice e0 p0 f0) by rw [hW0]; exact Rx.new _ _ _ _ _) (show W.heap.size = _ by simp))
    rw [← hW0]
    clear hW0
    refine (sz_rat_no ng0 a0 m0 c0 e0 p0 f0 (1048576) _ (by omega) (by omega)).mono ?_
    rintro e w1 ⟨rfl, bw1⟩
    replace D_a0 := Lib.hid (D_a0.out.below bw1)
    replace B := Lib.hid (B.out.trans (bw1.mono B.out.size))
    clear bw1
    go_wp2
    go_ret
    exact ⟨rfl, B.out⟩
  go_enter Tryd.func3, Tryd.ntmps3
  go_wp2_with fail
  obtain ⟨W0, hW0⟩ : ∃ x, x = (W.alloc (.cells #[.bool ng0, .slice a0 m0 c0, .slice e0 p0 f0] 26)) := ⟨_, rfl⟩
  have B := Lib.hid (show Below W.heap.size W W0 by rw [hW0]; exact (Below.refl W.heap.size W).alloc (Nat.le_refl _) (.cells #[.bool ng0, .slice a0 m0 c0, .slice e0 p0 f0] 26))
  have D_a0 := Lib.hid (rx_at (show Rx W0 _ 26 ng0 (.slice a0 m0 c0) (.slice e0 p0 f0) by rw [hW0]; exact Rx.new _ _ _ _ _) (show W.heap.size = _ by simp))
  rw [← hW0]
  clear hW0
  refine (sz_rat_yes ng0 a0 m0 c0 e0 p0 f0 (1048576) _ (by omega) (by omega)).mono ?_
  rintro e w1 ⟨rfl, bw1⟩
  replace D_a0 := Lib.hid (D_a0.out.below bw1)
  replace B := Lib.hid (B.out.trans (bw1.mono B.out.size))
  clear bw1
  have c0_a0 := D_a0.out.c0
  have c1_a0 := D_a0.out.c1
  have c2_a0 := D_a0.out.c2
  go_wp2_with fail
  clear c0_a0 c1_a0 c2_a0
  refine (to_ratsR _ zs0 _ ds0 _ (R0.out.below B.out) (by rw [N0.out.1]; omega) (by rw [N0.out.2]; omega)).mono ?_
  rintro e w2 ⟨v_t1, d_t1, rfl, o_t1, bw2⟩
  obtain ⟨a_t1, c_t1, e_t1, f_t1, rfl, rfl⟩ := o_t1.slices
  replace D_a0 := Lib.hid (D_a0.out.below bw2)
  replace B := Lib.hid (B.out.trans (bw2.mono B.out.size))
  have O_t1 := Lib.hid o_t1
  clear o_t1
  clear bw2
  go_wp2_with fail
  refine (spec_ratFormat ng0 _ zs0 _ ds0 _ O_t1.out.row).mono ?_
  rintro e w3 ⟨rfl, bw3⟩
  replace O_t1 := Lib.hid (O_t1.out.below bw3)
  replace D_a0 := Lib.hid (D_a0.out.below bw3)
  replace B := Lib.hid (B.out.trans (bw3.mono B.out.size))
  clear bw3
  clear O_t1
  have c0_a0 := D_a0.out.c0
  have c1_a0 := D_a0.out.c1
  have c2_a0 := D_a0.out.c2
  go_wp2_with fail
  clear c0_a0 c1_a0 c2_a0
  refine (to_ratsR _ zs0 _ ds0 _ (R0.out.below B.out) (by rw [N0.out.1]; omega) (by rw [N0.out.2]; omega)).mono ?_
  rintro e w4 ⟨v_t2, d_t2, rfl, o_t2, bw4⟩
  obtain ⟨a_t2, c_t2, e_t2, f_t2, rfl, rfl⟩ := o_t2.slices
  replace D_a0 := Lib.hid (D_a0.out.below bw4)
  replace B := Lib.hid (B.out.trans (bw4.mono B.out.size))
  have O_t2 := Lib.hid o_t2
  clear o_t2
  clear bw4
  have hz := B.out.size
  go_wp2_with fail
  clear hz
  obtain ⟨w5, hW0⟩ : ∃ x, x = w4.alloc (.cells #[.bool (ng0), .slice a_t2 (zs0).length c_t2, .slice e_t2 (ds0).length f_t2] 31) := ⟨_, rfl⟩
  replace O_t2 := Lib.hid (show OwnR w5 _ _ _ _ _ by rw [hW0]; exact O_t2.out.alloc _)
  replace D_a0 := Lib.hid (show Rx w5 _ _ _ _ _ by rw [hW0]; exact D_a0.out.alloc _)
  have D_t2 := Lib.hid (show Rx w5 w4.heap.size 31 (ng0) (.slice a_t2 (zs0).length c_t2) (.slice e_t2 (ds0).length f_t2) by rw [hW0]; exact Rx.new _ _ _ _ _)
  replace B := Lib.hid (show Below W.heap.size W w5 by rw [hW0]; exact B.out.alloc B.out.size _)
  rw [← hW0]
  clear hW0
  refine (impl_ratFormat ng0 _ zs0 _ ds0 _ (tab_below B.out HFtab.out) O_t2.out.row).mono ?_
  rintro e w6 ⟨rfl, bw6⟩
  replace O_t2 := Lib.hid (O_t2.out.below bw6)
  replace D_a0 := Lib.hid (D_a0.out.below bw6)
  replace D_t2 := Lib.hid (D_t2.out.below bw6)
  replace B := Lib.hid (B.out.trans (bw6.mono B.out.size))
  clear bw6
  go_wp2_with fail
  have c0_t2 := D_t2.out.c0
  have c1_t2 := D_t2.out.c1
  have c2_t2 := D_t2.out.c2
  have lt_t2 := D_t2.out.lt
  have c0_a0 := D_a0.out.c0
  have c1_a0 := D_a0.out.c1
  have c2_a0 := D_a0.out.c2
  have lt_a0 := D_a0.out.lt
  go_region_held3 (fun w' => w'.cell? ⟨w4.heap.size, 0, none⟩ = some (.bool (ng0)) ∧ w'.cell? ⟨w4.heap.size, 1, none⟩ = some (.slice a_t2 (zs0).length c_t2) ∧ w'.cell? ⟨w4.heap.size, 2, none⟩ = some (.slice e_t2 (ds0).length f_t2) ∧ w'.cell? ⟨W.heap.size, 0, none⟩ = some (.bool ng0) ∧ w'.cell? ⟨W.heap.size, 1, none⟩ = some (.slice a0 m0 c0) ∧ w'.cell? ⟨W.heap.size, 2, none⟩ = some (.slice e0 p0 f0)) (first | exact ⟨g8_0_t2, g8_1_t2, g8_2_t2, g8_0_a0, g8_1_a0, g8_2_a0⟩ | exact ⟨g7_0_t2, g7_1_t2, g7_2_t2, g7_0_a0, g7_1_a0, g7_2_a0⟩ | exact ⟨c0_t2, c1_t2, c2_t2, c0_a0, c1_a0, c2_a0⟩)
    (first
      | (have := bb7; go_at_call 8; refine (eq_ratsR _ _ _ _ _ _ _ (O_t2.out.row.below bb7) o_t3.row).mono ?_; rintro e w8 ⟨rfl, bw8⟩; have bb8 : Below w6.heap.size w6 w8 := bb7.trans (bw8.mono bb7.size); have g8_0_t2 := (bb8.cell (p := ⟨w4.heap.size, 0, none⟩) lt_t2).trans c0_t2; have g8_1_t2 := (bb8.cell (p := ⟨w4.heap.size, 1, none⟩) lt_t2).trans c1_t2; have g8_2_t2 := (bb8.cell (p := ⟨w4.heap.size, 2, none⟩) lt_t2).trans c2_t2; have g8_0_a0 := (bb8.cell (p := ⟨W.heap.size, 0, none⟩) lt_a0).trans c0_a0; have g8_1_a0 := (bb8.cell (p := ⟨W.heap.size, 1, none⟩) lt_a0).trans c1_a0; have g8_2_a0 := (bb8.cell (p := ⟨W.heap.size, 2, none⟩) lt_a0).trans c2_a0)
      | (go_at_call 6; refine (to_ratsR _ zs0 _ ds0 _ (R0.out.below (B.out.trans (Below.mono (by first | exact Below.refl _ _ | exact (Below.refl _ _).drew) B.out.size))) (by rw [N0.out.1]; omega) (by rw [N0.out.2]; omega)).mono ?_; rintro e w7 ⟨v_t3, d_t3, rfl, o_t3, bw7⟩; obtain ⟨a_t3, c_t3, e_t3, f_t3, rfl, rfl⟩ := o_t3.slices; have bb7 : Below w6.heap.size w6 w7 := (by first | exact bw7 | exact ((Below.refl _ _).drew).trans bw7); have g7_0_t2 := (bb7.cell (p := ⟨w4.heap.size, 0, none⟩) lt_t2).trans c0_t2; have g7_1_t2 := (bb7.cell (p := ⟨w4.heap.size, 1, none⟩) lt_t2).trans c1_t2; have g7_2_t2 := (bb7.cell (p := ⟨w4.heap.size, 2, none⟩) lt_t2).trans c2_t2; have g7_0_a0 := (bb7.cell (p := ⟨W.heap.size, 0, none⟩) lt_a0).trans c0_a0; have g7_1_a0 := (bb7.cell (p := ⟨W.heap.size, 1, none⟩) lt_a0).trans c1_a0; have g7_2_a0 := (bb7.cell (p := ⟨W.heap.size, 2, none⟩) lt_a0).trans c2_a0))
  clear bw7
  have bw7 := bb7
  replace o_t3 : OwnR w7 w6.heap.size _ _ _ _ := o_t3
  replace O_t2 := Lib.hid (O_t2.out.below bw7)
  replace D_a0 := Lib.hid (D_a0.out.below bw7)
  replace D_t2 := Lib.hid (D_t2.out.below bw7)
  replace B := Lib.hid (B.out.trans (bw7.mono B.out.size))
  have O_t3 := Lib.hid o_t3
  clear o_t3
  clear bw7
  clear g7_0_t2 g7_1_t2 g7_2_t2
  clear g7_0_a0 g7_1_a0 g7_2_a0
  replace O_t2 := Lib.hid (O_t2.out.below bw8)
  replace O_t3 := Lib.hid (O_t3.out.below bw8)
  replace D_a0 := Lib.hid (D_a0.out.below bw8)
  replace D_t2 := Lib.hid (D_t2.out.below bw8)
  replace B := Lib.hid (B.out.trans (bw8.mono B.out.size))
  clear bw8
  clear g8_0_t2 g8_1_t2 g8_2_t2
  clear g8_0_a0 g8_1_a0 g8_2_a0
  clear bb7 bb8
  clear c0_t2 c1_t2 c2_t2 lt_t2
  clear c0_a0 c1_a0 c2_a0 lt_a0
  clear O_t3
  go_wp2
  go_ret
  exact ⟨rfl, B.out⟩


end Go.Proofs.YtgoonbjhfbnaiaaDoor
