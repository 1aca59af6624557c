/- The exact law of Multiply. -/
import Derived.Test.YtojklmckjebplaaGreatMatImul
import Derived.Test.YtojklmckjebplaaGreatVecx
import Derived.Deep.CutBlock
import Derived.Deep.CutRange
import Derived.Deep.RegionHeld3
namespace Go.Proofs.YtojklmckjebplaaGreat
open Go.RowKit Go.WideShapes Go.ChangeShapes
set_option linter.unusedVariables false
set_option linter.unusedSimpArgs false
theorem inn_lens (A B : List Fr) : (innV A B).mag.length ≤ 60 ∧ (innV A B).den.length ≤ 60 := by
  have := sumX_len (zipF mulX A B); unfold innV; omega
theorem spec_innL (v0 : Value) (L0 : List Fr) (v1 : Value) (L1 : List Fr) (w : World) (h0 : RatsAt w v0 L0) (h1 : RatsAt w v1 L1) (hl : L0.length = L1.length) (hb : L0.length ≤ 24)
    (hE0 : ∀ k (hk : k < L0.length), ratOk (L0[k]'hk).neg (L0[k]'hk).mag (L0[k]'hk).den = true) (hE1 : ∀ k (hk : k < L1.length), ratOk (L1[k]'hk).neg (L1[k]'hk).mag (L1[k]'hk).den = true) :
    Calls Tryz.prog 39 #[v0, v1] w fun r w' => ∃ x y, r = .returned (.agg #[.bool (innV L0 L1).neg, x, y]) ∧ OwnR w' w.heap.size x (innV L0 L1).mag y (innV L0 L1).den ∧ Below w.heap.size w w' :=
  spec_inner v0 L0 v1 L1 w h0 h1 hl hb hE0 hE1
theorem mpL_len (r c : Int) (L : List Fr) (r' c' : Int) (L' : List Fr) : cntL (mpL ratOk innV r c L r' c' L') ≤ 100000 := by
  unfold mpL
  split
  · rename_i hb
    have hm : matB ratOk r c L = true ∧ matB ratOk r' c' L' = true := by unfold mpB at hb; simp only [Bool.and_eq_true] at hb; exact ⟨hb.1, hb.2.1⟩
    obtain ⟨R, C, rfl, rfl, hR, hC, hL, hRC, hE⟩ := matB_parts hm.1
    obtain ⟨R', K, rfl, rfl, hR', hK, hL', hRC', hE'⟩ := matB_parts hm.2
    unfold mpV
    rw [Int.toNat_natCast, Int.toNat_natCast, Int.toNat_natCast, Int.toNat_natCast]
    refine cntM_le (by rw [prM_len]; exact Nat.mul_le_mul hR hK) (fun f hf => ?_)
    unfold prM at hf
    rw [List.mem_flatMap] at hf
    obtain ⟨i, _, hf⟩ := hf
    unfold prC at hf
    obtain ⟨j, _, rfl⟩ := List.mem_map.1 hf
    exact inn_lens _ _
  · exact cnt_nil
theorem spec_mpL (r0 c0 : Int) (v0 : Value) (L0 : List Fr) (r1 c1 : Int) (v1 : Value) (L1 : List Fr) (w : World) (h0 : RatsAt w v0 L0) (h1 : RatsAt w v1 L1) :
    Calls Tryz.prog 6 #[.agg #[.int .i64 r0, .int .i64 c0, v0], .agg #[.int .i64 r1, .int .i64 c1, v1]] w fun e w' => ∃ u xs, e = .returned (.tuple #[.agg #[.int .i64 (mpR ratOk innV r0 c0 L0 r1 c1 L1), .int .i64 (mpC ratOk innV r0 c0 L0 r1 c1 L1), u], .bool (mpB ratOk innV r0 c0 L0 r1 c1 L1)]) ∧ OwnV w' w.heap.size u (mpL ratOk innV r0 c0 L0 r1 c1 L1) xs ∧ Below w.heap.size w w' := spec_multiply (ok := ratOk) (inn := innV) (HOK := (fun b v zs d ds w h => spec_ratOk b v zs d ds w h)) (HC := (fun f hf v d w h => spec_copyF f hf v d w h)) (HIN := (fun v0 L0 v1 L1 w h0 h1 hl hb hE0 hE1 => spec_innL v0 L0 v1 L1 w h0 h1 hl hb hE0 hE1)) r0 c0 v0 L0 r1 c1 v1 L1 w h0 h1
theorem impl_mpL (r0 c0 : Int) (v0 : Value) (L0 : List Fr) (r1 c1 : Int) (v1 : Value) (L1 : List Fr) (w : World) (h0 : RatsAt w v0 L0) (h1 : RatsAt w v1 L1) :
    Calls Tryz.prog 8 #[.agg #[.int .i64 r0, .int .i64 c0, v0], .agg #[.int .i64 r1, .int .i64 c1, v1]] w fun e w' => ∃ u xs, e = .returned (.tuple #[.agg #[.int .i64 (mpR ratOk innV r0 c0 L0 r1 c1 L1), .int .i64 (mpC ratOk innV r0 c0 L0 r1 c1 L1), u], .bool (mpB ratOk innV r0 c0 L0 r1 c1 L1)]) ∧ OwnV w' w.heap.size u (mpL ratOk innV r0 c0 L0 r1 c1 L1) xs ∧ Below w.heap.size w w' := impl_multiply r0 c0 v0 L0 r1 c1 v1 L1 w h0 h1
set_option maxRecDepth 100000
set_option maxHeartbeats 4000000 in
theorem law_multiply (W : World) (r0 q0 : Int) (v0 : Value) (zs0 : List Fr) (h0 : RatsAt W v0 zs0) (_ : True) (r1 q1 : Int) (v1 : Value) (zs1 : List Fr) (h1 : RatsAt W v1 zs1) (_ : True) :
    Calls Tryz.prog 3 #[.agg #[.int .i64 r0, .int .i64 q0, v0], .agg #[.int .i64 r1, .int .i64 q1, v1]] W fun e w' => e = .returned (.bool true) ∧ Below W.heap.size W w' := by
  have R0 := Lib.hid h0
  obtain ⟨a0, c0, rfl, g0, k0⟩ := ratsAt_form h0
  clear h0
  obtain ⟨m0, hm0'⟩ : ∃ n, zs0.length = n := ⟨_, rfl⟩
  rw [hm0'] at R0 g0 ⊢
  have N0 := Lib.hid hm0'
  clear hm0'
  have R1 := Lib.hid h1
  obtain ⟨a1, c1, rfl, g1, k1⟩ := ratsAt_form h1
  clear h1
  obtain ⟨m1, hm1'⟩ : ∃ n, zs1.length = n := ⟨_, rfl⟩
  rw [hm1'] at R1 g1 ⊢
  have N1 := Lib.hid hm1'
  clear hm1'
  by_cases hs0 : (zs0.length : Int) + szL zs0 ≤ 1048576
  rotate_left
  · go_enter Tryz.func3, Tryz.ntmps3
    go_wp2_with fail
    obtain ⟨W0, hW0⟩ : ∃ x, x = ((W.alloc (.cells #[.int .i64 r0, .int .i64 q0, .slice a0 m0 c0] 24)).alloc (.cells #[.int .i64 r1, .int .i64 q1, .slice a1 m1 c1] 24)) := ⟨_, rfl⟩
    have B := Lib.hid (show Below W.heap.size W W0 by rw [hW0]; exact (((Below.refl W.heap.size W).alloc (Nat.le_refl _) (.cells #[.int .i64 r0, .int .i64 q0, .slice a0 m0 c0] 24)).alloc (by simp) (.cells #[.int .i64 r1, .int .i64 q1, .slice a1 m1 c1] 24)))
    have D_a0 := Lib.hid (show B3 W0 W.heap.size 24 (.int .i64 r0) (.int .i64 q0) (.slice a0 m0 c0) by rw [hW0]; exact b3_at ((B3.new _ _ _ _ _).alloc _) (by simp))
    have D_a1 := Lib.hid (show B3 W0 (W.heap.size + 1) 24 (.int .i64 r1) (.int .i64 q1) (.slice a1 m1 c1) by rw [hW0]; exact b3_at (B3.new _ _ _ _ _) (by simp))
    have zw := Lib.hid (show W0.heap.size = W.heap.size + 1 + 1 by rw [hW0]; simp)
    rw [← hW0]
    clear hW0
    refine (sz_mat_no r0 q0 _ zs0 (1048576) _ (R0.out.below B.out) (by omega) (by omega)).mono ?_
    rintro e w1 ⟨rfl, bw1⟩
    replace D_a0 := Lib.hid (D_a0.out.below bw1)
    replace D_a1 := Lib.hid (D_a1.out.below bw1)
    replace B := Lib.hid (B.out.trans (bw1.mono B.out.size))
    have z_w1 := Lib.hid bw1.size
    clear bw1
    go_wp2
    go_ret
    exact ⟨rfl, B.out⟩
  by_cases hs1 : (zs1.length : Int) + szL zs1 ≤ 1048576 - (zs0.length : Int) - szL zs0
  rotate_left
  · go_enter Tryz.func3, Tryz.ntmps3
    go_wp2_with fail
    obtain ⟨W0, hW0⟩ : ∃ x, x = ((W.alloc (.cells #[.int .i64 r0, .int .i64 q0, .slice a0 m0 c0] 24)).alloc (.cells #[.int .i64 r1, .int .i64 q1, .slice a1 m1 c1] 24)) := ⟨_, rfl⟩
    have B := Lib.hid (show Below W.heap.size W W0 by rw [hW0]; exact (((Below.refl W.heap.size W).alloc (Nat.le_refl _) (.cells #[.int .i64 r0, .int .i64 q0, .slice a0 m0 c0] 24)).alloc (by simp) (.cells #[.int .i64 r1, .int .i64 q1, .slice a1 m1 c1] 24)))
    have D_a0 := Lib.hid (show B3 W0 W.heap.size 24 (.int .i64 r0) (.int .i64 q0) (.slice a0 m0 c0) by rw [hW0]; exact b3_at ((B3.new _ _ _ _ _).alloc _) (by simp))
    have D_a1 := Lib.hid (show B3 W0 (W.heap.size + 1) 24 (.int .i64 r1) (.int .i64 q1) (.slice a1 m1 c1) by rw [hW0]; exact b3_at (B3.new _ _ _ _ _) (by simp))
    have zw := Lib.hid (show W0.heap.size = W.heap.size + 1 + 1 by rw [hW0]; simp)
    rw [← hW0]
    clear hW0
    refine (sz_mat_yes r0 q0 _ zs0 (1048576) _ (R0.out.below B.out) (by omega) (by omega)).mono ?_
    rintro e w1 ⟨rfl, bw1⟩
    replace D_a0 := Lib.hid (D_a0.out.below bw1)
    replace D_a1 := Lib.hid (D_a1.out.below bw1)
    replace B := Lib.hid (B.out.trans (bw1.mono B.out.size))
    have z_w1 := Lib.hid bw1.size
    clear bw1
    have c0_a1 := D_a1.out.c0
    have c1_a1 := D_a1.out.c1
    have c2_a1 := D_a1.out.c2
    go_wp2_with fail
    clear c0_a1 c1_a1 c2_a1
    refine (sz_mat_no r1 q1 _ zs1 (1048576 - (zs0.length : Int) - szL zs0) _ (R1.out.below B.out) (by omega) (by omega)).mono ?_
    rintro e w2 ⟨rfl, bw2⟩
    replace D_a0 := Lib.hid (D_a0.out.below bw2)
    replace D_a1 := Lib.hid (D_a1.out.below bw2)
    replace B := Lib.hid (B.out.trans (bw2.mono B.out.size))
    have z_w2 := Lib.hid bw2.size
    clear bw2
    go_wp2
    go_ret
    exact ⟨rfl, B.out⟩
  have HL0 := Lib.hid (show ∀ f ∈ zs0, f.mag.length ≤ 1099511627776 ∧ f.den.length ≤ 1099511627776 from fun f hf => by have := szL_mem hf; omega)
  have HN0 := Lib.hid (show zs0.length ≤ 1048576 by omega)
  have HC0 := Lib.hid (show cntL zs0 ≤ 1048576 by unfold cntL; omega)
  have HL1 := Lib.hid (show ∀ f ∈ zs1, f.mag.length ≤ 1099511627776 ∧ f.den.length ≤ 1099511627776 from fun f hf => by have := szL_mem hf; omega)
  have HN1 := Lib.hid (show zs1.length ≤ 1048576 by omega)
  have HC1 := Lib.hid (show cntL zs1 ≤ 1048576 by unfold cntL; omega)
  have hLEN := mpL_len r0 q0 zs0 r1 q1 zs1
  obtain ⟨ZL, hZL⟩ : ∃ x, x = mpL ratOk innV r0 q0 zs0 r1 q1 zs1 := ⟨_, rfl⟩
  have HZL := Lib.hid hZL
  rw [← hZL] at hLEN
  have HA := Lib.hid (show cntL ZL ≤ 100000 from hLEN)
  have HAN := Lib.hid (show ZL.length ≤ 1048576 by have := HA.out; unfold cntL at this; omega)
  clear hLEN hZL
  obtain ⟨ZR, hZR⟩ : ∃ x, x = mpR ratOk innV r0 q0 zs0 r1 q1 zs1 := ⟨_, rfl⟩
  have HZR := Lib.hid hZR
  obtain ⟨ZC, hZC⟩ : ∃ x, x = mpC ratOk innV r0 q0 zs0 r1 q1 zs1 := ⟨_, rfl⟩
  have HZC := Lib.hid hZC
  clear hZR hZC
  go_enter Tryz.func3, Tryz.ntmps3
  go_wp2_with fail
  obtain ⟨W0, hW0⟩ : ∃ x, x = ((W.alloc (.cells #[.int .i64 r0, .int .i64 q0, .slice a0 m0 c0] 24)).alloc (.cells #[.int .i64 r1, .int .i64 q1, .slice a1 m1 c1] 24)) := ⟨_, rfl⟩
  have B := Lib.hid (show Below W.heap.size W W0 by rw [hW0]; exact (((Below.refl W.heap.size W).alloc (Nat.le_refl _) (.cells #[.int .i64 r0, .int .i64 q0, .slice a0 m0 c0] 24)).alloc (by simp) (.cells #[.int .i64 r1, .int .i64 q1, .slice a1 m1 c1] 24)))
  have D_a0 := Lib.hid (show B3 W0 W.heap.size 24 (.int .i64 r0) (.int .i64 q0) (.slice a0 m0 c0) by rw [hW0]; exact b3_at ((B3.new _ _ _ _ _).alloc _) (by simp))
  have D_a1 := Lib.hid (show B3 W0 (W.heap.size + 1) 24 (.int .i64 r1) (.int .i64 q1) (.slice a1 m1 c1) by rw [hW0]; exact b3_at (B3.new _ _ _ _ _) (by simp))
  have zw := Lib.hid (show W0.heap.size = W.heap.size + 1 + 1 by rw [hW0]; simp)
  rw [← hW0]
  clear hW0
  refine (sz_mat_yes r0 q0 _ zs0 (1048576) _ (R0.out.below B.out) (by omega) (by omega)).mono ?_
  rintro e w1 ⟨rfl, bw1⟩
  replace D_a0 := Lib.hid (D_a0.out.below bw1)
  replace D_a1 := Lib.hid (D_a1.out.below bw1)
  replace B := Lib.hid (B.out.trans (bw1.mono B.out.size))
  have z_w1 := Lib.hid bw1.size
  clear bw1
  have c0_a1 := D_a1.out.c0
  have c1_a1 := D_a1.out.c1
  have c2_a1 := D_a1.out.c2
  go_wp2_with fail
  clear c0_a1 c1_a1 c2_a1
  refine (sz_mat_yes r1 q1 _ zs1 (1048576 - (zs0.length : Int) - szL zs0) _ (R1.out.below B.out) (by omega) (by omega)).mono ?_
  rintro e w2 ⟨rfl, bw2⟩
  replace D_a0 := Lib.hid (D_a0.out.below bw2)
  replace D_a1 := Lib.hid (D_a1.out.below bw2)
  replace B := Lib.hid (B.out.trans (bw2.mono B.out.size))
  have z_w2 := Lib.hid bw2.size
  clear bw2
  have SP_w0 : ∀ (u0 : Value) (u1 : Value) (w9 : World), RatsAt w9 u0 zs0 → RatsAt w9 u1 zs1 → Calls Tryz.prog 6 #[.agg #[.int .i64 r0, .int .i64 q0, u0], .agg #[.int .i64 r1, .int .i64 q1, u1]] w9 fun e w' => ∃ u xs, e = .returned (.tuple #[.agg #[.int .i64 ZR, .int .i64 ZC, u], .bool (mpB ratOk innV r0 q0 zs0 r1 q1 zs1)]) ∧ OwnV w' w9.heap.size u ZL xs ∧ Below w9.heap.size w9 w' := by
    intro u0 u1 w9 h0 h1; have h9 := spec_mpL r0 q0 u0 zs0 r1 q1 u1 zs1 w9 h0 h1; rw [← HZL.out, ← HZR.out, ← HZC.out] at h9; exact h9
  replace SP_w0 := Lib.hid SP_w0
  go_upto_region 8 with fail
  have c0_a0 := D_a0.out.c0
  have c1_a0 := D_a0.out.c1
  have c2_a0 := D_a0.out.c2
  have lt_a0 := D_a0.out.lt
  have c0_a1 := D_a1.out.c0
  have c1_a1 := D_a1.out.c1
  have c2_a1 := D_a1.out.c2
  have lt_a1 := D_a1.out.lt
  go_cut [6, 7] from 27 (fun uq0 uq1 wc => ∃ (p : Nat) (a_w0 : Option Addr) (c_w0 : Nat) (x_w0 : List (Value × Value)), uq0 = .pointer (some ⟨p, 0, none⟩) ∧ uq1 = .bool (mpB ratOk innV r0 q0 zs0 r1 q1 zs1) ∧ Hid (B3 wc p 28 (.int .i64 ZR) (.int .i64 ZC) (.slice a_w0 ZL.length c_w0)) ∧ Hid (OwnV wc w2.heap.size (.slice a_w0 ZL.length c_w0) ZL x_w0) ∧ Hid (Below w2.heap.size w2 wc))
  case first =>
    go_region_held3 (fun w' => w'.cell? ⟨W.heap.size, 0, none⟩ = some (.int .i64 r0) ∧ w'.cell? ⟨W.heap.size, 1, none⟩ = some (.int .i64 q0) ∧ w'.cell? ⟨W.heap.size, 2, none⟩ = some (.slice a0 m0 c0) ∧ w'.cell? ⟨(W.heap.size + 1), 0, none⟩ = some (.int .i64 r1) ∧ w'.cell? ⟨(W.heap.size + 1), 1, none⟩ = some (.int .i64 q1) ∧ w'.cell? ⟨(W.heap.size + 1), 2, none⟩ = some (.slice a1 m1 c1)) (first | with_reducible exact ⟨g5_0_a0, g5_1_a0, g5_2_a0, g5_0_a1, g5_1_a1, g5_2_a1⟩ | with_reducible exact ⟨cell_alloc g5_0_a0 _, cell_alloc g5_1_a0 _, cell_alloc g5_2_a0 _, cell_alloc g5_0_a1 _, cell_alloc g5_1_a1 _, cell_alloc g5_2_a1 _⟩ | with_reducible exact ⟨g4_0_a0, g4_1_a0, g4_2_a0, g4_0_a1, g4_1_a1, g4_2_a1⟩ | with_reducible exact ⟨cell_alloc g4_0_a0 _, cell_alloc g4_1_a0 _, cell_alloc g4_2_a0 _, cell_alloc g4_0_a1 _, cell_alloc g4_1_a1 _, cell_alloc g4_2_a1 _⟩ | with_reducible exact ⟨g3_0_a0, g3_1_a0, g3_2_a0, g3_0_a1, g3_1_a1, g3_2_a1⟩ | with_reducible exact ⟨cell_alloc g3_0_a0 _, cell_alloc g3_1_a0 _, cell_alloc g3_2_a0 _, cell_alloc g3_0_a1 _, cell_alloc g3_1_a1 _, cell_alloc g3_2_a1 _⟩ | with_reducible exact ⟨c0_a0, c1_a0, c2_a0, c0_a1, c1_a1, c2_a1⟩ | with_reducible exact ⟨cell_drew c0_a0, cell_drew c1_a0, cell_drew c2_a0, cell_drew c0_a1, cell_drew c1_a1, cell_drew c2_a1⟩ | with_reducible exact ⟨cell_alloc c0_a0 _, cell_alloc c1_a0 _, cell_alloc c2_a0 _, cell_alloc c0_a1 _, cell_alloc c1_a1 _, cell_alloc c2_a1 _⟩ | with_reducible exact ⟨cell_drew (cell_alloc c0_a0 _), cell_drew (cell_alloc c1_a0 _), cell_drew (cell_alloc c2_a0 _), cell_drew (cell_alloc c0_a1 _), cell_drew (cell_alloc c1_a1 _), cell_drew (cell_alloc c2_a1 _)⟩ | with_reducible exact ⟨(cell_far3 (show W.heap.size ≠ _ from fun e => absurd pz (by omega)) _ _ _).trans g5_0_a0, (cell_far3 (show W.heap.size ≠ _ from fun e => absurd pz (by omega)) _ _ _).trans g5_1_a0, (cell_far3 (show W.heap.size ≠ _ from fun e => absurd pz (by omega)) _ _ _).trans g5_2_a0, (cell_far3 (show (W.heap.size + 1) ≠ _ from fun e => absurd pz (by omega)) _ _ _).trans g5_0_a1, (cell_far3 (show (W.heap.size + 1) ≠ _ from fun e => absurd pz (by omega)) _ _ _).trans g5_1_a1, (cell_far3 (show (W.heap.size + 1) ≠ _ from fun e => absurd pz (by omega)) _ _ _).trans g5_2_a1⟩ | fail)
      (first
        | (have := bb4; go_at_call 6; refine (SP_w0.out _ _ _ (by first | with_reducible exact r_t1 | with_reducible exact r_t1.below ((Below.refl _ _).alloc (Nat.le_refl _) _)) (by first | with_reducible exact o_t2.rats | with_reducible exact o_t2.rats.below ((Below.refl _ _).alloc (Nat.le_refl _) _))).mono ?_; rintro e w5 ⟨v_w0, x_w0, rfl, o_w0, bw5⟩; obtain ⟨a_w0, c_w0, rfl⟩ := o_w0.slice; have bb5 : Below w2.heap.size w2 w5 := (by first | with_reducible exact bb4.trans (bw5.mono bb4.size) | with_reducible exact (bb4.alloc bb4.size _).trans (bw5.mono (Nat.le_trans bb4.size (by simp)))); (try with_reducible (have dz := B3.below dz bw5; have pz := pz)); (try with_reducible (have dz := (show B3 w5 w4.heap.size 28 (.int .i64 0) (.int .i64 0) (.slice none 0 0) from B3.below (B3.new _ _ _ _ _) bw5); have pz : w2.heap.size ≤ w4.heap.size := bb4.size)); (try (have y0 := dz.c0; have y1 := dz.c1; have y2 := dz.c2; have y3 := dz.f 0; have y4 := dz.f 1; have y5 := dz.f 2)); have g5_0_a0 := (bb5.cell (p := ⟨W.heap.size, 0, none⟩) lt_a0).trans c0_a0; have g5_1_a0 := (bb5.cell (p := ⟨W.heap.size, 1, none⟩) lt_a0).trans c1_a0; have g5_2_a0 := (bb5.cell (p := ⟨W.heap.size, 2, none⟩) lt_a0).trans c2_a0; have g5_0_a1 := (bb5.cell (p := ⟨(W.heap.size + 1), 0, none⟩) lt_a1).trans c0_a1; have g5_1_a1 := (bb5.cell (p := ⟨(W.heap.size + 1), 1, none⟩) lt_a1).trans c1_a1; have g5_2_a1 := (bb5.cell (p := ⟨(W.heap.size + 1), 2, none⟩) lt_a1).trans c2_a1)
        | (have := bb3; go_at_call 7; refine (to_mat r1 q1 _ zs1 _ (R1.out.below (B.out.trans (Below.mono (by first | with_reducible exact bb3 | with_reducible exact bb3.alloc bb3.size _) B.out.size))) HN1.out HL1.out).mono ?_; rintro e w4 ⟨v_t2, x_t2, rfl, o_t2, bw4⟩; obtain ⟨a_t2, c_t2, rfl⟩ := o_t2.slice; have bb4 : Below w2.heap.size w2 w4 := (by first | with_reducible exact bb3.trans (bw4.mono bb3.size) | with_reducible exact (bb3.alloc bb3.size _).trans (bw4.mono (Nat.le_trans bb3.size (by simp)))); (try with_reducible (have dz := B3.below dz bw4; have pz := pz)); (try with_reducible (have dz := (show B3 w4 w3.heap.size 28 (.int .i64 0) (.int .i64 0) (.slice none 0 0) from B3.below (B3.new _ _ _ _ _) bw4); have pz : w2.heap.size ≤ w3.heap.size := bb3.size)); (try (have y0 := dz.c0; have y1 := dz.c1; have y2 := dz.c2; have y3 := dz.f 0; have y4 := dz.f 1; have y5 := dz.f 2)); have r_t1 := (by first | with_reducible exact o_t1.rats.below bw4 | with_reducible exact (o_t1.rats.below ((Below.refl _ _).alloc (Nat.le_refl _) _)).below bw4 : RatsAt w4 _ _); have g4_0_a0 := (bb4.cell (p := ⟨W.heap.size, 0, none⟩) lt_a0).trans c0_a0; have g4_1_a0 := (bb4.cell (p := ⟨W.heap.size, 1, none⟩) lt_a0).trans c1_a0; have g4_2_a0 := (bb4.cell (p := ⟨W.heap.size, 2, none⟩) lt_a0).trans c2_a0; have g4_0_a1 := (bb4.cell (p := ⟨(W.heap.size + 1), 0, none⟩) lt_a1).trans c0_a1; have g4_1_a1 := (bb4.cell (p := ⟨(W.heap.size + 1), 1, none⟩) lt_a1).trans c1_a1; have g4_2_a1 := (bb4.cell (p := ⟨(W.heap.size + 1), 2, none⟩) lt_a1).trans c2_a1)
        | (go_at_call 7; refine (to_mat r0 q0 _ zs0 _ (R0.out.below (B.out.trans (Below.mono (by first | with_reducible exact Below.refl _ _ | with_reducible exact (Below.refl _ _).drew | with_reducible exact (((Below.refl _ _).drew).alloc (Nat.le_refl _) _) | with_reducible exact ((Below.refl _ _).alloc (Nat.le_refl _) _) | with_reducible exact (((Below.refl _ _).alloc (Nat.le_refl _) _).drew)) B.out.size))) HN0.out HL0.out).mono ?_; rintro e w3 ⟨v_t1, x_t1, rfl, o_t1, bw3⟩; obtain ⟨a_t1, c_t1, rfl⟩ := o_t1.slice; have bb3 : Below w2.heap.size w2 w3 := (by first | with_reducible exact bw3 | with_reducible exact ((Below.refl _ _).drew).trans (bw3.mono (le_drew _)) | with_reducible exact (((Below.refl _ _).drew).alloc (Nat.le_refl _) _).trans (bw3.mono (by simp)) | with_reducible exact ((Below.refl _ _).alloc (Nat.le_refl _) _).trans (bw3.mono (by simp)) | with_reducible exact (((Below.refl _ _).alloc (Nat.le_refl _) _).drew).trans (bw3.mono (le_alloc_drew _ _))); (try with_reducible (have dz := (show B3 w3 w2.heap.size 28 (.int .i64 0) (.int .i64 0) (.slice none 0 0) from B3.below (show B3 (World.drew (w2.alloc (.cells #[.int .i64 0, .int .i64 0, .slice none 0 0] 28))) w2.heap.size 28 (.int .i64 0) (.int .i64 0) (.slice none 0 0) from B3.drew (B3.new _ _ _ _ _)) bw3); have pz : w2.heap.size ≤ w2.heap.size := Nat.le_refl _)); (try (have y0 := dz.c0; have y1 := dz.c1; have y2 := dz.c2; have y3 := dz.f 0; have y4 := dz.f 1; have y5 := dz.f 2)); have g3_0_a0 := (bb3.cell (p := ⟨W.heap.size, 0, none⟩) lt_a0).trans c0_a0; have g3_1_a0 := (bb3.cell (p := ⟨W.heap.size, 1, none⟩) lt_a0).trans c1_a0; have g3_2_a0 := (bb3.cell (p := ⟨W.heap.size, 2, none⟩) lt_a0).trans c2_a0; have g3_0_a1 := (bb3.cell (p := ⟨(W.heap.size + 1), 0, none⟩) lt_a1).trans c0_a1; have g3_1_a1 := (bb3.cell (p := ⟨(W.heap.size + 1), 1, none⟩) lt_a1).trans c1_a1; have g3_2_a1 := (bb3.cell (p := ⟨(W.heap.size + 1), 2, none⟩) lt_a1).trans c2_a1))
    all_goals go_wp2_with fail
    all_goals go_meet
    all_goals first
      | exact ⟨_, a_w0, c_w0, x_w0, rfl, rfl, dz.set3 _ _ _, (o_w0.set3_b3 dz (by decide) (by decide) _ _ _).base (by first | exact bb4.size | exact Nat.le_trans bb4.size (by simp)), ((bb5.setCell pz _).setCell pz _).setCell pz _⟩
      | exact ⟨_, a_w0, c_w0, x_w0, rfl, rfl, B3.new _ _ _ _ _, (o_w0.alloc _).base bb4.size, bb5.alloc bb5.size _⟩
  obtain ⟨p_w0, a_w0, c_w0, x_w0, rfl, rfl, hD, hO, hB⟩ := hcut
  obtain ⟨wc8, hwc⟩ : ∃ x, x = wc := ⟨_, rfl⟩
  rw [← hwc] at hD hO hB ⊢
  clear hwc
  clear c0_a0 c1_a0 c2_a0 lt_a0
  clear c0_a1 c1_a1 c2_a1 lt_a1
  replace D_a0 := Lib.hid (D_a0.out.below hB.out)
  replace D_a1 := Lib.hid (D_a1.out.below hB.out)
  have z_wc8 := Lib.hid hB.out.size
  have zp_w0 := Lib.hid hD.out.lt
  replace B := Lib.hid (B.out.trans (hB.out.mono B.out.size))
  have D_w0 := hD
  have O_w0 := hO
  have L_w0 := Lib.hid hO.out.lt
  clear hD hO hB
  have c0_a0 := D_a0.out.c0
  have c1_a0 := D_a0.out.c1
  have c2_a0 := D_a0.out.c2
  go_wp2_with fail
  clear c0_a0 c1_a0 c2_a0
  refine (to_mat r0 q0 _ zs0 _ (R0.out.below B.out) HN0.out HL0.out).mono ?_
  rintro e w6 ⟨v_x0, x_x0, rfl, o_x0, bw6⟩
  obtain ⟨a_x0, c_x0, rfl⟩ := o_x0.slice
  replace O_w0 := Lib.hid (O_w0.out.below bw6)
  replace D_a0 := Lib.hid (D_a0.out.below bw6)
  replace D_a1 := Lib.hid (D_a1.out.below bw6)
  replace D_w0 := Lib.hid (D_w0.out.below bw6)
  replace B := Lib.hid (B.out.trans (bw6.mono B.out.size))
  have z_w6 := Lib.hid bw6.size
  have O_x0 := Lib.hid o_x0
  have L_x0 := Lib.hid o_x0.lt
  clear o_x0
  clear bw6
  have c0_a1 := D_a1.out.c0
  have c1_a1 := D_a1.out.c1
  have c2_a1 := D_a1.out.c2
  have lt_a1 := D_a1.out.lt
  have hz := B.out.size
  go_wp2_with fail
  clear c0_a1 c1_a1 c2_a1 lt_a1
  clear hz
  obtain ⟨w7, hW0⟩ : ∃ x, x = w6.alloc (.cells #[.int .i64 r0, .int .i64 q0, .slice a_x0 zs0.length c_x0] 28) := ⟨_, rfl⟩
  replace O_w0 := Lib.hid (show OwnV w7 _ _ _ _ by rw [hW0]; exact O_w0.out.alloc _)
  replace O_x0 := Lib.hid (show OwnV w7 _ _ _ _ by rw [hW0]; exact O_x0.out.alloc _)
  replace D_a0 := Lib.hid (show B3 w7 _ _ _ _ _ by rw [hW0]; exact D_a0.out.alloc _)
  replace D_a1 := Lib.hid (show B3 w7 _ _ _ _ _ by rw [hW0]; exact D_a1.out.alloc _)
  replace D_w0 := Lib.hid (show B3 w7 _ _ _ _ _ by rw [hW0]; exact D_w0.out.alloc _)
  have D_x0 := Lib.hid (show B3 w7 w6.heap.size 28 (.int .i64 r0) (.int .i64 q0) (.slice a_x0 zs0.length c_x0) by rw [hW0]; exact B3.new _ _ _ _ _)
  replace B := Lib.hid (show Below W.heap.size W w7 by rw [hW0]; exact B.out.alloc B.out.size _)
  have z_w7 := Lib.hid (show w7.heap.size = w6.heap.size + 1 by rw [hW0]; simp)
  rw [← hW0]
  clear hW0
  refine (to_mat r1 q1 _ zs1 _ (R1.out.below B.out) HN1.out HL1.out).mono ?_
  rintro e w8 ⟨v_x1, x_x1, rfl, o_x1, bw8⟩
  obtain ⟨a_x1, c_x1, rfl⟩ := o_x1.slice
  replace O_w0 := Lib.hid (O_w0.out.below bw8)
  replace O_x0 := Lib.hid (O_x0.out.below bw8)
  replace D_a0 := Lib.hid (D_a0.out.below bw8)
  replace D_a1 := Lib.hid (D_a1.out.below bw8)
  replace D_w0 := Lib.hid (D_w0.out.below bw8)
  replace D_x0 := Lib.hid (D_x0.out.below bw8)
  replace B := Lib.hid (B.out.trans (bw8.mono B.out.size))
  have z_w8 := Lib.hid bw8.size
  have O_x1 := Lib.hid o_x1
  have L_x1 := Lib.hid o_x1.lt
  clear o_x1
  clear bw8
  have c0_x0 := D_x0.out.c0
  have c1_x0 := D_x0.out.c1
  have c2_x0 := D_x0.out.c2
  have lt_x0 := D_x0.out.lt
  have hz := B.out.size
  go_wp2_with fail
  clear c0_x0 c1_x0 c2_x0 lt_x0
  clear hz
  obtain ⟨w9, hW0⟩ : ∃ x, x = w8.alloc (.cells #[.int .i64 r1, .int .i64 q1, .slice a_x1 zs1.length c_x1] 28) := ⟨_, rfl⟩
  replace O_w0 := Lib.hid (show OwnV w9 _ _ _ _ by rw [hW0]; exact O_w0.out.alloc _)
  replace O_x0 := Lib.hid (show OwnV w9 _ _ _ _ by rw [hW0]; exact O_x0.out.alloc _)
  replace O_x1 := Lib.hid (show OwnV w9 _ _ _ _ by rw [hW0]; exact O_x1.out.alloc _)
  replace D_a0 := Lib.hid (show B3 w9 _ _ _ _ _ by rw [hW0]; exact D_a0.out.alloc _)
  replace D_a1 := Lib.hid (show B3 w9 _ _ _ _ _ by rw [hW0]; exact D_a1.out.alloc _)
  replace D_w0 := Lib.hid (show B3 w9 _ _ _ _ _ by rw [hW0]; exact D_w0.out.alloc _)
  replace D_x0 := Lib.hid (show B3 w9 _ _ _ _ _ by rw [hW0]; exact D_x0.out.alloc _)
  have D_x1 := Lib.hid (show B3 w9 w8.heap.size 28 (.int .i64 r1) (.int .i64 q1) (.slice a_x1 zs1.length c_x1) by rw [hW0]; exact B3.new _ _ _ _ _)
  replace B := Lib.hid (show Below W.heap.size W w9 by rw [hW0]; exact B.out.alloc B.out.size _)
  have z_w9 := Lib.hid (show w9.heap.size = w8.heap.size + 1 by rw [hW0]; simp)
  rw [← hW0]
  clear hW0
  have hc9 := impl_mpL r0 q0 _ zs0 r1 q1 _ zs1 w9 O_x0.out.rats O_x1.out.rats
  rw [← HZL.out, ← HZR.out, ← HZC.out] at hc9
  refine (hc9).mono ?_
  rintro e w10 ⟨v_g0, x_g0, rfl, o_g0, bw10⟩
  obtain ⟨a_g0, c_g0, rfl⟩ := o_g0.slice
  replace O_w0 := Lib.hid (O_w0.out.below bw10)
  replace O_x0 := Lib.hid (O_x0.out.below bw10)
  replace O_x1 := Lib.hid (O_x1.out.below bw10)
  replace D_a0 := Lib.hid (D_a0.out.below bw10)
  replace D_a1 := Lib.hid (D_a1.out.below bw10)
  replace D_w0 := Lib.hid (D_w0.out.below bw10)
  replace D_x0 := Lib.hid (D_x0.out.below bw10)
  replace D_x1 := Lib.hid (D_x1.out.below bw10)
  replace B := Lib.hid (B.out.trans (bw10.mono B.out.size))
  have z_w10 := Lib.hid bw10.size
  have O_g0 := Lib.hid o_g0
  have L_g0 := Lib.hid o_g0.lt
  clear o_g0
  clear bw10
  have c0_w0 := D_w0.out.c0
  have c1_w0 := D_w0.out.c1
  have c2_w0 := D_w0.out.c2
  have lt_w0 := D_w0.out.lt
  have hz := B.out.size
  go_wp2_with fail
  clear c0_w0 c1_w0 c2_w0 lt_w0
  clear hz
  obtain ⟨w11, hW0⟩ : ∃ x, x = w10.alloc (.cells #[.int .i64 ZR, .int .i64 ZC, .slice a_g0 ZL.length c_g0] 28) := ⟨_, rfl⟩
  replace O_w0 := Lib.hid (show OwnV w11 _ _ _ _ by rw [hW0]; exact O_w0.out.alloc _)
  replace O_x0 := Lib.hid (show OwnV w11 _ _ _ _ by rw [hW0]; exact O_x0.out.alloc _)
  replace O_x1 := Lib.hid (show OwnV w11 _ _ _ _ by rw [hW0]; exact O_x1.out.alloc _)
  replace O_g0 := Lib.hid (show OwnV w11 _ _ _ _ by rw [hW0]; exact O_g0.out.alloc _)
  replace D_a0 := Lib.hid (show B3 w11 _ _ _ _ _ by rw [hW0]; exact D_a0.out.alloc _)
  replace D_a1 := Lib.hid (show B3 w11 _ _ _ _ _ by rw [hW0]; exact D_a1.out.alloc _)
  replace D_w0 := Lib.hid (show B3 w11 _ _ _ _ _ by rw [hW0]; exact D_w0.out.alloc _)
  replace D_x0 := Lib.hid (show B3 w11 _ _ _ _ _ by rw [hW0]; exact D_x0.out.alloc _)
  replace D_x1 := Lib.hid (show B3 w11 _ _ _ _ _ by rw [hW0]; exact D_x1.out.alloc _)
  have D_g0 := Lib.hid (show B3 w11 w10.heap.size 28 (.int .i64 ZR) (.int .i64 ZC) (.slice a_g0 ZL.length c_g0) by rw [hW0]; exact B3.new _ _ _ _ _)
  replace B := Lib.hid (show Below W.heap.size W w11 by rw [hW0]; exact B.out.alloc B.out.size _)
  have z_w11 := Lib.hid (show w11.heap.size = w10.heap.size + 1 by rw [hW0]; simp)
  rw [← hW0]
  clear hW0
  refine (eq_mat _ _ _ _ _ _ O_g0.out.rats O_w0.out.rats HAN.out).mono ?_
  rintro e w12 ⟨rfl, bw12⟩
  replace O_w0 := Lib.hid (O_w0.out.below bw12)
  replace O_x0 := Lib.hid (O_x0.out.below bw12)
  replace O_x1 := Lib.hid (O_x1.out.below bw12)
  replace O_g0 := Lib.hid (O_g0.out.below bw12)
  replace D_a0 := Lib.hid (D_a0.out.below bw12)
  replace D_a1 := Lib.hid (D_a1.out.below bw12)
  replace D_w0 := Lib.hid (D_w0.out.below bw12)
  replace D_x0 := Lib.hid (D_x0.out.below bw12)
  replace D_x1 := Lib.hid (D_x1.out.below bw12)
  replace D_g0 := Lib.hid (D_g0.out.below bw12)
  replace B := Lib.hid (B.out.trans (bw12.mono B.out.size))
  have z_w12 := Lib.hid bw12.size
  clear bw12
  go_wp2_with fail
  have c0_x0 := D_x0.out.c0
  have c1_x0 := D_x0.out.c1
  have c2_x0 := D_x0.out.c2
  have lt_x0 := D_x0.out.lt
  have c0_a0 := D_a0.out.c0
  have c1_a0 := D_a0.out.c1
  have c2_a0 := D_a0.out.c2
  have lt_a0 := D_a0.out.lt
  go_region_held3 (fun w' => w'.cell? ⟨w6.heap.size, 0, none⟩ = some (.int .i64 r0) ∧ w'.cell? ⟨w6.heap.size, 1, none⟩ = some (.int .i64 q0) ∧ w'.cell? ⟨w6.heap.size, 2, none⟩ = some (.slice a_x0 zs0.length c_x0) ∧ w'.cell? ⟨W.heap.size, 0, none⟩ = some (.int .i64 r0) ∧ w'.cell? ⟨W.heap.size, 1, none⟩ = some (.int .i64 q0) ∧ w'.cell? ⟨W.heap.size, 2, none⟩ = some (.slice a0 m0 c0)) (first | exact ⟨g14_0_x0, g14_1_x0, g14_2_x0, g14_0_a0, g14_1_a0, g14_2_a0⟩ | exact ⟨g13_0_x0, g13_1_x0, g13_2_x0, g13_0_a0, g13_1_a0, g13_2_a0⟩ | exact ⟨c0_x0, c1_x0, c2_x0, c0_a0, c1_a0, c2_a0⟩)
    (first
      | (have := bb13; go_at_call 9; refine (eq_mat _ _ _ _ _ _ (O_x0.out.rats.below bb13) o_t3.rats HN0.out).mono ?_; rintro e w14 ⟨rfl, bw14⟩; have bb14 : Below w12.heap.size w12 w14 := bb13.trans (bw14.mono bb13.size); have g14_0_x0 := (bb14.cell (p := ⟨w6.heap.size, 0, none⟩) lt_x0).trans c0_x0; have g14_1_x0 := (bb14.cell (p := ⟨w6.heap.size, 1, none⟩) lt_x0).trans c1_x0; have g14_2_x0 := (bb14.cell (p := ⟨w6.heap.size, 2, none⟩) lt_x0).trans c2_x0; have g14_0_a0 := (bb14.cell (p := ⟨W.heap.size, 0, none⟩) lt_a0).trans c0_a0; have g14_1_a0 := (bb14.cell (p := ⟨W.heap.size, 1, none⟩) lt_a0).trans c1_a0; have g14_2_a0 := (bb14.cell (p := ⟨W.heap.size, 2, none⟩) lt_a0).trans c2_a0)
      | (go_at_call 7; refine (to_mat r0 q0 _ zs0 _ (R0.out.below (B.out.trans (Below.mono (by first | exact Below.refl _ _ | exact (Below.refl _ _).drew) B.out.size))) HN0.out HL0.out).mono ?_; rintro e w13 ⟨v_t3, x_t3, rfl, o_t3, bw13⟩; obtain ⟨a_t3, c_t3, rfl⟩ := o_t3.slice; have bb13 : Below w12.heap.size w12 w13 := (by first | exact bw13 | exact ((Below.refl _ _).drew).trans bw13); have g13_0_x0 := (bb13.cell (p := ⟨w6.heap.size, 0, none⟩) lt_x0).trans c0_x0; have g13_1_x0 := (bb13.cell (p := ⟨w6.heap.size, 1, none⟩) lt_x0).trans c1_x0; have g13_2_x0 := (bb13.cell (p := ⟨w6.heap.size, 2, none⟩) lt_x0).trans c2_x0; have g13_0_a0 := (bb13.cell (p := ⟨W.heap.size, 0, none⟩) lt_a0).trans c0_a0; have g13_1_a0 := (bb13.cell (p := ⟨W.heap.size, 1, none⟩) lt_a0).trans c1_a0; have g13_2_a0 := (bb13.cell (p := ⟨W.heap.size, 2, none⟩) lt_a0).trans c2_a0))
  clear bw13
  have bw13 := bb13
  replace o_t3 : OwnV w13 w12.heap.size _ _ _ := o_t3
  replace O_w0 := Lib.hid (O_w0.out.below bw13)
  replace O_x0 := Lib.hid (O_x0.out.below bw13)
  replace O_x1 := Lib.hid (O_x1.out.below bw13)
  replace O_g0 := Lib.hid (O_g0.out.below bw13)
  replace D_a0 := Lib.hid (D_a0.out.below bw13)
  replace D_a1 := Lib.hid (D_a1.out.below bw13)
  replace D_w0 := Lib.hid (D_w0.out.below bw13)
  replace D_x0 := Lib.hid (D_x0.out.below bw13)
  replace D_x1 := Lib.hid (D_x1.out.below bw13)
  replace D_g0 := Lib.hid (D_g0.out.below bw13)
  replace B := Lib.hid (B.out.trans (bw13.mono B.out.size))
  have z_w13 := Lib.hid bw13.size
  have O_t3 := Lib.hid o_t3
  have L_t3 := Lib.hid o_t3.lt
  clear o_t3
  clear bw13
  clear g13_0_x0 g13_1_x0 g13_2_x0
  clear g13_0_a0 g13_1_a0 g13_2_a0
  replace O_w0 := Lib.hid (O_w0.out.below bw14)
  replace O_x0 := Lib.hid (O_x0.out.below bw14)
  replace O_x1 := Lib.hid (O_x1.out.below bw14)
  replace O_g0 := Lib.hid (O_g0.out.below bw14)
  replace O_t3 := Lib.hid (O_t3.out.below bw14)
  replace D_a0 := Lib.hid (D_a0.out.below bw14)
  replace D_a1 := Lib.hid (D_a1.out.below bw14)
  replace D_w0 := Lib.hid (D_w0.out.below bw14)
  replace D_x0 := Lib.hid (D_x0.out.below bw14)
  replace D_x1 := Lib.hid (D_x1.out.below bw14)
  replace D_g0 := Lib.hid (D_g0.out.below bw14)
  replace B := Lib.hid (B.out.trans (bw14.mono B.out.size))
  have z_w14 := Lib.hid bw14.size
  clear bw14
  clear g14_0_x0 g14_1_x0 g14_2_x0
  clear g14_0_a0 g14_1_a0 g14_2_a0
  clear bb13 bb14
  clear c0_x0 c1_x0 c2_x0 lt_x0
  clear c0_a0 c1_a0 c2_a0 lt_a0
  clear O_t3 L_t3
  go_wp2_with fail
  have c0_x1 := D_x1.out.c0
  have c1_x1 := D_x1.out.c1
  have c2_x1 := D_x1.out.c2
  have lt_x1 := D_x1.out.lt
  have c0_a1 := D_a1.out.c0
  have c1_a1 := D_a1.out.c1
  have c2_a1 := D_a1.out.c2
  have lt_a1 := D_a1.out.lt
  go_region_held3 (fun w' => w'.cell? ⟨w8.heap.size, 0, none⟩ = some (.int .i64 r1) ∧ w'.cell? ⟨w8.heap.size, 1, none⟩ = some (.int .i64 q1) ∧ w'.cell? ⟨w8.heap.size, 2, none⟩ = some (.slice a_x1 zs1.length c_x1) ∧ w'.cell? ⟨(W.heap.size + 1), 0, none⟩ = some (.int .i64 r1) ∧ w'.cell? ⟨(W.heap.size + 1), 1, none⟩ = some (.int .i64 q1) ∧ w'.cell? ⟨(W.heap.size + 1), 2, none⟩ = some (.slice a1 m1 c1)) (first | exact ⟨g16_0_x1, g16_1_x1, g16_2_x1, g16_0_a1, g16_1_a1, g16_2_a1⟩ | exact ⟨g15_0_x1, g15_1_x1, g15_2_x1, g15_0_a1, g15_1_a1, g15_2_a1⟩ | exact ⟨c0_x1, c1_x1, c2_x1, c0_a1, c1_a1, c2_a1⟩)
    (first
      | (have := bb15; go_at_call 9; refine (eq_mat _ _ _ _ _ _ (O_x1.out.rats.below bb15) o_t4.rats HN1.out).mono ?_; rintro e w16 ⟨rfl, bw16⟩; have bb16 : Below w14.heap.size w14 w16 := bb15.trans (bw16.mono bb15.size); have g16_0_x1 := (bb16.cell (p := ⟨w8.heap.size, 0, none⟩) lt_x1).trans c0_x1; have g16_1_x1 := (bb16.cell (p := ⟨w8.heap.size, 1, none⟩) lt_x1).trans c1_x1; have g16_2_x1 := (bb16.cell (p := ⟨w8.heap.size, 2, none⟩) lt_x1).trans c2_x1; have g16_0_a1 := (bb16.cell (p := ⟨(W.heap.size + 1), 0, none⟩) lt_a1).trans c0_a1; have g16_1_a1 := (bb16.cell (p := ⟨(W.heap.size + 1), 1, none⟩) lt_a1).trans c1_a1; have g16_2_a1 := (bb16.cell (p := ⟨(W.heap.size + 1), 2, none⟩) lt_a1).trans c2_a1)
      | (go_at_call 7; refine (to_mat r1 q1 _ zs1 _ (R1.out.below (B.out.trans (Below.mono (by first | exact Below.refl _ _ | exact (Below.refl _ _).drew) B.out.size))) HN1.out HL1.out).mono ?_; rintro e w15 ⟨v_t4, x_t4, rfl, o_t4, bw15⟩; obtain ⟨a_t4, c_t4, rfl⟩ := o_t4.slice; have bb15 : Below w14.heap.size w14 w15 := (by first | exact bw15 | exact ((Below.refl _ _).drew).trans bw15); have g15_0_x1 := (bb15.cell (p := ⟨w8.heap.size, 0, none⟩) lt_x1).trans c0_x1; have g15_1_x1 := (bb15.cell (p := ⟨w8.heap.size, 1, none⟩) lt_x1).trans c1_x1; have g15_2_x1 := (bb15.cell (p := ⟨w8.heap.size, 2, none⟩) lt_x1).trans c2_x1; have g15_0_a1 := (bb15.cell (p := ⟨(W.heap.size + 1), 0, none⟩) lt_a1).trans c0_a1; have g15_1_a1 := (bb15.cell (p := ⟨(W.heap.size + 1), 1, none⟩) lt_a1).trans c1_a1; have g15_2_a1 := (bb15.cell (p := ⟨(W.heap.size + 1), 2, none⟩) lt_a1).trans c2_a1))
  clear bw15
  have bw15 := bb15
  replace o_t4 : OwnV w15 w14.heap.size _ _ _ := o_t4
  replace O_w0 := Lib.hid (O_w0.out.below bw15)
  replace O_x0 := Lib.hid (O_x0.out.below bw15)
  replace O_x1 := Lib.hid (O_x1.out.below bw15)
  replace O_g0 := Lib.hid (O_g0.out.below bw15)
  replace D_a0 := Lib.hid (D_a0.out.below bw15)
  replace D_a1 := Lib.hid (D_a1.out.below bw15)
  replace D_w0 := Lib.hid (D_w0.out.below bw15)
  replace D_x0 := Lib.hid (D_x0.out.below bw15)
  replace D_x1 := Lib.hid (D_x1.out.below bw15)
  replace D_g0 := Lib.hid (D_g0.out.below bw15)
  replace B := Lib.hid (B.out.trans (bw15.mono B.out.size))
  have z_w15 := Lib.hid bw15.size
  have O_t4 := Lib.hid o_t4
  have L_t4 := Lib.hid o_t4.lt
  clear o_t4
  clear bw15
  clear g15_0_x1 g15_1_x1 g15_2_x1
  clear g15_0_a1 g15_1_a1 g15_2_a1
  replace O_w0 := Lib.hid (O_w0.out.below bw16)
  replace O_x0 := Lib.hid (O_x0.out.below bw16)
  replace O_x1 := Lib.hid (O_x1.out.below bw16)
  replace O_g0 := Lib.hid (O_g0.out.below bw16)
  replace O_t4 := Lib.hid (O_t4.out.below bw16)
  replace D_a0 := Lib.hid (D_a0.out.below bw16)
  replace D_a1 := Lib.hid (D_a1.out.below bw16)
  replace D_w0 := Lib.hid (D_w0.out.below bw16)
  replace D_x0 := Lib.hid (D_x0.out.below bw16)
  replace D_x1 := Lib.hid (D_x1.out.below bw16)
  replace D_g0 := Lib.hid (D_g0.out.below bw16)
  replace B := Lib.hid (B.out.trans (bw16.mono B.out.size))
  have z_w16 := Lib.hid bw16.size
  clear bw16
  clear g16_0_x1 g16_1_x1 g16_2_x1
  clear g16_0_a1 g16_1_a1 g16_2_a1
  clear bb15 bb16
  clear c0_x1 c1_x1 c2_x1 lt_x1
  clear c0_a1 c1_a1 c2_a1 lt_a1
  clear O_t4 L_t4
  have c0_x0 := D_x0.out.c0
  have c1_x0 := D_x0.out.c1
  have c2_x0 := D_x0.out.c2
  go_wp2_with fail
  clear c0_x0 c1_x0 c2_x0
  refine (mark_mat _ _ _ (1) _ (zs0) _ _ _ (by simp) O_x0.out (by skip; have := HC0.out; have := HC1.out; skip; omega) (by have := HN0.out; omega)).mono ?_
  rintro e w17 ⟨rfl, om, bk⟩
  replace O_w0 := Lib.hid (O_w0.out.kept bk (fun k hk hs => by have := L_w0.out k hk; have := L_x0.out k hs; have := zw.out; have := z_w1.out; have := z_w2.out; have := z_wc8.out; have := zp_w0.out; have := z_w6.out; have := z_w7.out; have := z_w8.out; have := z_w9.out; have := z_w10.out; have := z_w11.out; have := z_w12.out; have := z_w13.out; have := z_w14.out; have := z_w15.out; have := z_w16.out; omega))
  replace O_x1 := Lib.hid (O_x1.out.kept bk (fun k hk hs => by have := L_x1.out k hk; have := L_x0.out k hs; have := zw.out; have := z_w1.out; have := z_w2.out; have := z_wc8.out; have := zp_w0.out; have := z_w6.out; have := z_w7.out; have := z_w8.out; have := z_w9.out; have := z_w10.out; have := z_w11.out; have := z_w12.out; have := z_w13.out; have := z_w14.out; have := z_w15.out; have := z_w16.out; omega))
  replace O_g0 := Lib.hid (O_g0.out.kept bk (fun k hk hs => by have := L_g0.out k hk; have := L_x0.out k hs; have := zw.out; have := z_w1.out; have := z_w2.out; have := z_wc8.out; have := zp_w0.out; have := z_w6.out; have := z_w7.out; have := z_w8.out; have := z_w9.out; have := z_w10.out; have := z_w11.out; have := z_w12.out; have := z_w13.out; have := z_w14.out; have := z_w15.out; have := z_w16.out; omega))
  replace D_a0 := Lib.hid (B3.keptK D_a0.out bk (fun hs => by have := L_x0.out _ hs; have := zw.out; have := z_w1.out; have := z_w2.out; have := z_wc8.out; have := zp_w0.out; have := z_w6.out; have := z_w7.out; have := z_w8.out; have := z_w9.out; have := z_w10.out; have := z_w11.out; have := z_w12.out; have := z_w13.out; have := z_w14.out; have := z_w15.out; have := z_w16.out; omega))
  replace D_a1 := Lib.hid (B3.keptK D_a1.out bk (fun hs => by have := L_x0.out _ hs; have := zw.out; have := z_w1.out; have := z_w2.out; have := z_wc8.out; have := zp_w0.out; have := z_w6.out; have := z_w7.out; have := z_w8.out; have := z_w9.out; have := z_w10.out; have := z_w11.out; have := z_w12.out; have := z_w13.out; have := z_w14.out; have := z_w15.out; have := z_w16.out; omega))
  replace D_w0 := Lib.hid (B3.keptK D_w0.out bk (fun hs => by have := L_x0.out _ hs; have := zw.out; have := z_w1.out; have := z_w2.out; have := z_wc8.out; have := zp_w0.out; have := z_w6.out; have := z_w7.out; have := z_w8.out; have := z_w9.out; have := z_w10.out; have := z_w11.out; have := z_w12.out; have := z_w13.out; have := z_w14.out; have := z_w15.out; have := z_w16.out; omega))
  replace D_x0 := Lib.hid (B3.keptK D_x0.out bk (fun hs => by have := L_x0.out _ hs; have := zw.out; have := z_w1.out; have := z_w2.out; have := z_wc8.out; have := zp_w0.out; have := z_w6.out; have := z_w7.out; have := z_w8.out; have := z_w9.out; have := z_w10.out; have := z_w11.out; have := z_w12.out; have := z_w13.out; have := z_w14.out; have := z_w15.out; have := z_w16.out; omega))
  replace D_x1 := Lib.hid (B3.keptK D_x1.out bk (fun hs => by have := L_x0.out _ hs; have := zw.out; have := z_w1.out; have := z_w2.out; have := z_wc8.out; have := zp_w0.out; have := z_w6.out; have := z_w7.out; have := z_w8.out; have := z_w9.out; have := z_w10.out; have := z_w11.out; have := z_w12.out; have := z_w13.out; have := z_w14.out; have := z_w15.out; have := z_w16.out; omega))
  replace D_g0 := Lib.hid (B3.keptK D_g0.out bk (fun hs => by have := L_x0.out _ hs; have := zw.out; have := z_w1.out; have := z_w2.out; have := z_wc8.out; have := zp_w0.out; have := z_w6.out; have := z_w7.out; have := z_w8.out; have := z_w9.out; have := z_w10.out; have := z_w11.out; have := z_w12.out; have := z_w13.out; have := z_w14.out; have := z_w15.out; have := z_w16.out; omega))
  replace B := Lib.hid (below_kept B.out bk B.out.size (fun k hk => by have := L_x0.out k hk; have := zw.out; have := z_w1.out; have := z_w2.out; have := z_wc8.out; have := zp_w0.out; have := z_w6.out; have := z_w7.out; have := z_w8.out; have := z_w9.out; have := z_w10.out; have := z_w11.out; have := z_w12.out; have := z_w13.out; have := z_w14.out; have := z_w15.out; have := z_w16.out; have := B.out.size; omega))
  have z_w17 := Lib.hid bk.size
  replace O_x0 := Lib.hid om
  clear om bk
  have c0_x1 := D_x1.out.c0
  have c1_x1 := D_x1.out.c1
  have c2_x1 := D_x1.out.c2
  go_wp2_with fail
  clear c0_x1 c1_x1 c2_x1
  refine (mark_mat _ _ _ (1 + cntL zs0) _ (zs1) _ _ _ (by simp) O_x1.out (by skip; have := HC0.out; have := HC1.out; skip; omega) (by have := HN1.out; omega)).mono ?_
  rintro e w18 ⟨rfl, om, bk⟩
  replace O_w0 := Lib.hid (O_w0.out.kept bk (fun k hk hs => by have := L_w0.out k hk; have := L_x1.out k hs; have := zw.out; have := z_w1.out; have := z_w2.out; have := z_wc8.out; have := zp_w0.out; have := z_w6.out; have := z_w7.out; have := z_w8.out; have := z_w9.out; have := z_w10.out; have := z_w11.out; have := z_w12.out; have := z_w13.out; have := z_w14.out; have := z_w15.out; have := z_w16.out; have := z_w17.out; omega))
  replace O_x0 := Lib.hid (O_x0.out.kept bk (fun k hk hs => by have := L_x0.out k hk; have := L_x1.out k hs; have := zw.out; have := z_w1.out; have := z_w2.out; have := z_wc8.out; have := zp_w0.out; have := z_w6.out; have := z_w7.out; have := z_w8.out; have := z_w9.out; have := z_w10.out; have := z_w11.out; have := z_w12.out; have := z_w13.out; have := z_w14.out; have := z_w15.out; have := z_w16.out; have := z_w17.out; omega))
  replace O_g0 := Lib.hid (O_g0.out.kept bk (fun k hk hs => by have := L_g0.out k hk; have := L_x1.out k hs; have := zw.out; have := z_w1.out; have := z_w2.out; have := z_wc8.out; have := zp_w0.out; have := z_w6.out; have := z_w7.out; have := z_w8.out; have := z_w9.out; have := z_w10.out; have := z_w11.out; have := z_w12.out; have := z_w13.out; have := z_w14.out; have := z_w15.out; have := z_w16.out; have := z_w17.out; omega))
  replace D_a0 := Lib.hid (B3.keptK D_a0.out bk (fun hs => by have := L_x1.out _ hs; have := zw.out; have := z_w1.out; have := z_w2.out; have := z_wc8.out; have := zp_w0.out; have := z_w6.out; have := z_w7.out; have := z_w8.out; have := z_w9.out; have := z_w10.out; have := z_w11.out; have := z_w12.out; have := z_w13.out; have := z_w14.out; have := z_w15.out; have := z_w16.out; have := z_w17.out; omega))
  replace D_a1 := Lib.hid (B3.keptK D_a1.out bk (fun hs => by have := L_x1.out _ hs; have := zw.out; have := z_w1.out; have := z_w2.out; have := z_wc8.out; have := zp_w0.out; have := z_w6.out; have := z_w7.out; have := z_w8.out; have := z_w9.out; have := z_w10.out; have := z_w11.out; have := z_w12.out; have := z_w13.out; have := z_w14.out; have := z_w15.out; have := z_w16.out; have := z_w17.out; omega))
  replace D_w0 := Lib.hid (B3.keptK D_w0.out bk (fun hs => by have := L_x1.out _ hs; have := zw.out; have := z_w1.out; have := z_w2.out; have := z_wc8.out; have := zp_w0.out; have := z_w6.out; have := z_w7.out; have := z_w8.out; have := z_w9.out; have := z_w10.out; have := z_w11.out; have := z_w12.out; have := z_w13.out; have := z_w14.out; have := z_w15.out; have := z_w16.out; have := z_w17.out; omega))
  replace D_x0 := Lib.hid (B3.keptK D_x0.out bk (fun hs => by have := L_x1.out _ hs; have := zw.out; have := z_w1.out; have := z_w2.out; have := z_wc8.out; have := zp_w0.out; have := z_w6.out; have := z_w7.out; have := z_w8.out; have := z_w9.out; have := z_w10.out; have := z_w11.out; have := z_w12.out; have := z_w13.out; have := z_w14.out; have := z_w15.out; have := z_w16.out; have := z_w17.out; omega))
  replace D_x1 := Lib.hid (B3.keptK D_x1.out bk (fun hs => by have := L_x1.out _ hs; have := zw.out; have := z_w1.out; have := z_w2.out; have := z_wc8.out; have := zp_w0.out; have := z_w6.out; have := z_w7.out; have := z_w8.out; have := z_w9.out; have := z_w10.out; have := z_w11.out; have := z_w12.out; have := z_w13.out; have := z_w14.out; have := z_w15.out; have := z_w16.out; have := z_w17.out; omega))
  replace D_g0 := Lib.hid (B3.keptK D_g0.out bk (fun hs => by have := L_x1.out _ hs; have := zw.out; have := z_w1.out; have := z_w2.out; have := z_wc8.out; have := zp_w0.out; have := z_w6.out; have := z_w7.out; have := z_w8.out; have := z_w9.out; have := z_w10.out; have := z_w11.out; have := z_w12.out; have := z_w13.out; have := z_w14.out; have := z_w15.out; have := z_w16.out; have := z_w17.out; omega))
  replace B := Lib.hid (below_kept B.out bk B.out.size (fun k hk => by have := L_x1.out k hk; have := zw.out; have := z_w1.out; have := z_w2.out; have := z_wc8.out; have := zp_w0.out; have := z_w6.out; have := z_w7.out; have := z_w8.out; have := z_w9.out; have := z_w10.out; have := z_w11.out; have := z_w12.out; have := z_w13.out; have := z_w14.out; have := z_w15.out; have := z_w16.out; have := z_w17.out; have := B.out.size; omega))
  have z_w18 := Lib.hid bk.size
  replace O_x1 := Lib.hid om
  clear om bk
  clear O_x0 L_x0
  clear O_x1 L_x1
  have c0_g0 := D_g0.out.c0
  have c1_g0 := D_g0.out.c1
  have c2_g0 := D_g0.out.c2
  have c0_w0 := D_w0.out.c0
  have c1_w0 := D_w0.out.c1
  have c2_w0 := D_w0.out.c2
  go_wp2_with fail
  clear c0_g0 c1_g0 c2_g0
  clear c0_w0 c1_w0 c2_w0
  refine (eq_mat _ _ _ _ _ _ O_g0.out.rats O_w0.out.rats HAN.out).mono ?_
  rintro e w19 ⟨rfl, bw19⟩
  replace O_w0 := Lib.hid (O_w0.out.below bw19)
  replace O_g0 := Lib.hid (O_g0.out.below bw19)
  replace D_a0 := Lib.hid (D_a0.out.below bw19)
  replace D_a1 := Lib.hid (D_a1.out.below bw19)
  replace D_w0 := Lib.hid (D_w0.out.below bw19)
  replace D_x0 := Lib.hid (D_x0.out.below bw19)
  replace D_x1 := Lib.hid (D_x1.out.below bw19)
  replace D_g0 := Lib.hid (D_g0.out.below bw19)
  replace B := Lib.hid (B.out.trans (bw19.mono B.out.size))
  have z_w19 := Lib.hid bw19.size
  clear bw19
  have c0_g0 := D_g0.out.c0
  have c1_g0 := D_g0.out.c1
  have c2_g0 := D_g0.out.c2
  go_wp2_with fail
  clear c0_g0 c1_g0 c2_g0
  refine (mark_mat _ _ _ (1) _ (ZL) _ _ _ (by simp) O_g0.out (by have := HA.out; have := HC0.out; have := HC1.out; skip; omega) (by have := HAN.out; omega)).mono ?_
  rintro e w20 ⟨rfl, om, bk⟩
  replace O_w0 := Lib.hid (O_w0.out.kept bk (fun k hk hs => by have := L_w0.out k hk; have := L_g0.out k hs; have := zw.out; have := z_w1.out; have := z_w2.out; have := z_wc8.out; have := zp_w0.out; have := z_w6.out; have := z_w7.out; have := z_w8.out; have := z_w9.out; have := z_w10.out; have := z_w11.out; have := z_w12.out; have := z_w13.out; have := z_w14.out; have := z_w15.out; have := z_w16.out; have := z_w17.out; have := z_w18.out; have := z_w19.out; omega))
  replace D_a0 := Lib.hid (B3.keptK D_a0.out bk (fun hs => by have := L_g0.out _ hs; have := zw.out; have := z_w1.out; have := z_w2.out; have := z_wc8.out; have := zp_w0.out; have := z_w6.out; have := z_w7.out; have := z_w8.out; have := z_w9.out; have := z_w10.out; have := z_w11.out; have := z_w12.out; have := z_w13.out; have := z_w14.out; have := z_w15.out; have := z_w16.out; have := z_w17.out; have := z_w18.out; have := z_w19.out; omega))
  replace D_a1 := Lib.hid (B3.keptK D_a1.out bk (fun hs => by have := L_g0.out _ hs; have := zw.out; have := z_w1.out; have := z_w2.out; have := z_wc8.out; have := zp_w0.out; have := z_w6.out; have := z_w7.out; have := z_w8.out; have := z_w9.out; have := z_w10.out; have := z_w11.out; have := z_w12.out; have := z_w13.out; have := z_w14.out; have := z_w15.out; have := z_w16.out; have := z_w17.out; have := z_w18.out; have := z_w19.out; omega))
  replace D_w0 := Lib.hid (B3.keptK D_w0.out bk (fun hs => by have := L_g0.out _ hs; have := zw.out; have := z_w1.out; have := z_w2.out; have := z_wc8.out; have := zp_w0.out; have := z_w6.out; have := z_w7.out; have := z_w8.out; have := z_w9.out; have := z_w10.out; have := z_w11.out; have := z_w12.out; have := z_w13.out; have := z_w14.out; have := z_w15.out; have := z_w16.out; have := z_w17.out; have := z_w18.out; have := z_w19.out; omega))
  replace D_x0 := Lib.hid (B3.keptK D_x0.out bk (fun hs => by have := L_g0.out _ hs; have := zw.out; have := z_w1.out; have := z_w2.out; have := z_wc8.out; have := zp_w0.out; have := z_w6.out; have := z_w7.out; have := z_w8.out; have := z_w9.out; have := z_w10.out; have := z_w11.out; have := z_w12.out; have := z_w13.out; have := z_w14.out; have := z_w15.out; have := z_w16.out; have := z_w17.out; have := z_w18.out; have := z_w19.out; omega))
  replace D_x1 := Lib.hid (B3.keptK D_x1.out bk (fun hs => by have := L_g0.out _ hs; have := zw.out; have := z_w1.out; have := z_w2.out; have := z_wc8.out; have := zp_w0.out; have := z_w6.out; have := z_w7.out; have := z_w8.out; have := z_w9.out; have := z_w10.out; have := z_w11.out; have := z_w12.out; have := z_w13.out; have := z_w14.out; have := z_w15.out; have := z_w16.out; have := z_w17.out; have := z_w18.out; have := z_w19.out; omega))
  replace D_g0 := Lib.hid (B3.keptK D_g0.out bk (fun hs => by have := L_g0.out _ hs; have := zw.out; have := z_w1.out; have := z_w2.out; have := z_wc8.out; have := zp_w0.out; have := z_w6.out; have := z_w7.out; have := z_w8.out; have := z_w9.out; have := z_w10.out; have := z_w11.out; have := z_w12.out; have := z_w13.out; have := z_w14.out; have := z_w15.out; have := z_w16.out; have := z_w17.out; have := z_w18.out; have := z_w19.out; omega))
  replace B := Lib.hid (below_kept B.out bk B.out.size (fun k hk => by have := L_g0.out k hk; have := zw.out; have := z_w1.out; have := z_w2.out; have := z_wc8.out; have := zp_w0.out; have := z_w6.out; have := z_w7.out; have := z_w8.out; have := z_w9.out; have := z_w10.out; have := z_w11.out; have := z_w12.out; have := z_w13.out; have := z_w14.out; have := z_w15.out; have := z_w16.out; have := z_w17.out; have := z_w18.out; have := z_w19.out; have := B.out.size; omega))
  have z_w20 := Lib.hid bk.size
  replace O_g0 := Lib.hid om
  clear om bk
  have c0_g0 := D_g0.out.c0
  have c1_g0 := D_g0.out.c1
  have c2_g0 := D_g0.out.c2
  go_wp2_with fail
  clear c0_g0 c1_g0 c2_g0
  refine (held_mat _ _ _ (1) _ ZL _ (by simp) O_g0.out.rats (by have := HA.out; omega)).mono ?_
  rintro e w21 ⟨rfl, bw21⟩
  replace O_w0 := Lib.hid (O_w0.out.below bw21)
  replace O_g0 := Lib.hid (O_g0.out.below bw21)
  replace D_a0 := Lib.hid (D_a0.out.below bw21)
  replace D_a1 := Lib.hid (D_a1.out.below bw21)
  replace D_w0 := Lib.hid (D_w0.out.below bw21)
  replace D_x0 := Lib.hid (D_x0.out.below bw21)
  replace D_x1 := Lib.hid (D_x1.out.below bw21)
  replace D_g0 := Lib.hid (D_g0.out.below bw21)
  replace B := Lib.hid (B.out.trans (bw21.mono B.out.size))
  have z_w21 := Lib.hid bw21.size
  clear bw21
  have SP_h0 : ∀ (u0 : Value) (u1 : Value) (w9 : World), RatsAt w9 u0 zs0 → RatsAt w9 u1 zs1 → Calls Tryz.prog 8 #[.agg #[.int .i64 r0, .int .i64 q0, u0], .agg #[.int .i64 r1, .int .i64 q1, u1]] w9 fun e w' => ∃ u xs, e = .returned (.tuple #[.agg #[.int .i64 ZR, .int .i64 ZC, u], .bool (mpB ratOk innV r0 q0 zs0 r1 q1 zs1)]) ∧ OwnV w' w9.heap.size u ZL xs ∧ Below w9.heap.size w9 w' := by
    intro u0 u1 w9 h0 h1; have h9 := impl_mpL r0 q0 u0 zs0 r1 q1 u1 zs1 w9 h0 h1; rw [← HZL.out, ← HZR.out, ← HZC.out] at h9; exact h9
  replace SP_h0 := Lib.hid SP_h0
  go_upto_region 31 with fail
  have c0_a0 := D_a0.out.c0
  have c1_a0 := D_a0.out.c1
  have c2_a0 := D_a0.out.c2
  have lt_a0 := D_a0.out.lt
  have c0_a1 := D_a1.out.c0
  have c1_a1 := D_a1.out.c1
  have c2_a1 := D_a1.out.c2
  have lt_a1 := D_a1.out.lt
  go_cut [15, 16] from 94 (fun uq0 uq1 wc => ∃ (p : Nat) (a_h0 : Option Addr) (c_h0 : Nat) (x_h0 : List (Value × Value)), uq0 = .pointer (some ⟨p, 0, none⟩) ∧ uq1 = .bool (mpB ratOk innV r0 q0 zs0 r1 q1 zs1) ∧ Hid (B3 wc p 28 (.int .i64 ZR) (.int .i64 ZC) (.slice a_h0 ZL.length c_h0)) ∧ Hid (OwnV wc w21.heap.size (.slice a_h0 ZL.length c_h0) ZL x_h0) ∧ Hid (Below w21.heap.size w21 wc))
  case first =>
    go_region_held3 (fun w' => w'.cell? ⟨W.heap.size, 0, none⟩ = some (.int .i64 r0) ∧ w'.cell? ⟨W.heap.size, 1, none⟩ = some (.int .i64 q0) ∧ w'.cell? ⟨W.heap.size, 2, none⟩ = some (.slice a0 m0 c0) ∧ w'.cell? ⟨(W.heap.size + 1), 0, none⟩ = some (.int .i64 r1) ∧ w'.cell? ⟨(W.heap.size + 1), 1, none⟩ = some (.int .i64 q1) ∧ w'.cell? ⟨(W.heap.size + 1), 2, none⟩ = some (.slice a1 m1 c1)) (first | with_reducible exact ⟨g24_0_a0, g24_1_a0, g24_2_a0, g24_0_a1, g24_1_a1, g24_2_a1⟩ | with_reducible exact ⟨cell_alloc g24_0_a0 _, cell_alloc g24_1_a0 _, cell_alloc g24_2_a0 _, cell_alloc g24_0_a1 _, cell_alloc g24_1_a1 _, cell_alloc g24_2_a1 _⟩ | with_reducible exact ⟨g23_0_a0, g23_1_a0, g23_2_a0, g23_0_a1, g23_1_a1, g23_2_a1⟩ | with_reducible exact ⟨cell_alloc g23_0_a0 _, cell_alloc g23_1_a0 _, cell_alloc g23_2_a0 _, cell_alloc g23_0_a1 _, cell_alloc g23_1_a1 _, cell_alloc g23_2_a1 _⟩ | with_reducible exact ⟨g22_0_a0, g22_1_a0, g22_2_a0, g22_0_a1, g22_1_a1, g22_2_a1⟩ | with_reducible exact ⟨cell_alloc g22_0_a0 _, cell_alloc g22_1_a0 _, cell_alloc g22_2_a0 _, cell_alloc g22_0_a1 _, cell_alloc g22_1_a1 _, cell_alloc g22_2_a1 _⟩ | with_reducible exact ⟨c0_a0, c1_a0, c2_a0, c0_a1, c1_a1, c2_a1⟩ | with_reducible exact ⟨cell_drew c0_a0, cell_drew c1_a0, cell_drew c2_a0, cell_drew c0_a1, cell_drew c1_a1, cell_drew c2_a1⟩ | with_reducible exact ⟨cell_alloc c0_a0 _, cell_alloc c1_a0 _, cell_alloc c2_a0 _, cell_alloc c0_a1 _, cell_alloc c1_a1 _, cell_alloc c2_a1 _⟩ | with_reducible exact ⟨cell_drew (cell_alloc c0_a0 _), cell_drew (cell_alloc c1_a0 _), cell_drew (cell_alloc c2_a0 _), cell_drew (cell_alloc c0_a1 _), cell_drew (cell_alloc c1_a1 _), cell_drew (cell_alloc c2_a1 _)⟩ | with_reducible exact ⟨(cell_far3 (show W.heap.size ≠ _ from fun e => absurd pz (by omega)) _ _ _).trans g24_0_a0, (cell_far3 (show W.heap.size ≠ _ from fun e => absurd pz (by omega)) _ _ _).trans g24_1_a0, (cell_far3 (show W.heap.size ≠ _ from fun e => absurd pz (by omega)) _ _ _).trans g24_2_a0, (cell_far3 (show (W.heap.size + 1) ≠ _ from fun e => absurd pz (by omega)) _ _ _).trans g24_0_a1, (cell_far3 (show (W.heap.size + 1) ≠ _ from fun e => absurd pz (by omega)) _ _ _).trans g24_1_a1, (cell_far3 (show (W.heap.size + 1) ≠ _ from fun e => absurd pz (by omega)) _ _ _).trans g24_2_a1⟩ | fail)
      (first
        | (have := bb23; go_at_call 8; refine (SP_h0.out _ _ _ (by first | with_reducible exact r_t5 | with_reducible exact r_t5.below ((Below.refl _ _).alloc (Nat.le_refl _) _)) (by first | with_reducible exact o_t6.rats | with_reducible exact o_t6.rats.below ((Below.refl _ _).alloc (Nat.le_refl _) _))).mono ?_; rintro e w24 ⟨v_h0, x_h0, rfl, o_h0, bw24⟩; obtain ⟨a_h0, c_h0, rfl⟩ := o_h0.slice; have bb24 : Below w21.heap.size w21 w24 := (by first | with_reducible exact bb23.trans (bw24.mono bb23.size) | with_reducible exact (bb23.alloc bb23.size _).trans (bw24.mono (Nat.le_trans bb23.size (by simp)))); (try with_reducible (have dz := B3.below dz bw24; have pz := pz)); (try with_reducible (have dz := (show B3 w24 w23.heap.size 28 (.int .i64 0) (.int .i64 0) (.slice none 0 0) from B3.below (B3.new _ _ _ _ _) bw24); have pz : w21.heap.size ≤ w23.heap.size := bb23.size)); (try (have y0 := dz.c0; have y1 := dz.c1; have y2 := dz.c2; have y3 := dz.f 0; have y4 := dz.f 1; have y5 := dz.f 2)); have g24_0_a0 := (bb24.cell (p := ⟨W.heap.size, 0, none⟩) lt_a0).trans c0_a0; have g24_1_a0 := (bb24.cell (p := ⟨W.heap.size, 1, none⟩) lt_a0).trans c1_a0; have g24_2_a0 := (bb24.cell (p := ⟨W.heap.size, 2, none⟩) lt_a0).trans c2_a0; have g24_0_a1 := (bb24.cell (p := ⟨(W.heap.size + 1), 0, none⟩) lt_a1).trans c0_a1; have g24_1_a1 := (bb24.cell (p := ⟨(W.heap.size + 1), 1, none⟩) lt_a1).trans c1_a1; have g24_2_a1 := (bb24.cell (p := ⟨(W.heap.size + 1), 2, none⟩) lt_a1).trans c2_a1)
        | (have := bb22; go_at_call 7; refine (to_mat r1 q1 _ zs1 _ (R1.out.below (B.out.trans (Below.mono (by first | with_reducible exact bb22 | with_reducible exact bb22.alloc bb22.size _) B.out.size))) HN1.out HL1.out).mono ?_; rintro e w23 ⟨v_t6, x_t6, rfl, o_t6, bw23⟩; obtain ⟨a_t6, c_t6, rfl⟩ := o_t6.slice; have bb23 : Below w21.heap.size w21 w23 := (by first | with_reducible exact bb22.trans (bw23.mono bb22.size) | with_reducible exact (bb22.alloc bb22.size _).trans (bw23.mono (Nat.le_trans bb22.size (by simp)))); (try with_reducible (have dz := B3.below dz bw23; have pz := pz)); (try with_reducible (have dz := (show B3 w23 w22.heap.size 28 (.int .i64 0) (.int .i64 0) (.slice none 0 0) from B3.below (B3.new _ _ _ _ _) bw23); have pz : w21.heap.size ≤ w22.heap.size := bb22.size)); (try (have y0 := dz.c0; have y1 := dz.c1; have y2 := dz.c2; have y3 := dz.f 0; have y4 := dz.f 1; have y5 := dz.f 2)); have r_t5 := (by first | with_reducible exact o_t5.rats.below bw23 | with_reducible exact (o_t5.rats.below ((Below.refl _ _).alloc (Nat.le_refl _) _)).below bw23 : RatsAt w23 _ _); have g23_0_a0 := (bb23.cell (p := ⟨W.heap.size, 0, none⟩) lt_a0).trans c0_a0; have g23_1_a0 := (bb23.cell (p := ⟨W.heap.size, 1, none⟩) lt_a0).trans c1_a0; have g23_2_a0 := (bb23.cell (p := ⟨W.heap.size, 2, none⟩) lt_a0).trans c2_a0; have g23_0_a1 := (bb23.cell (p := ⟨(W.heap.size + 1), 0, none⟩) lt_a1).trans c0_a1; have g23_1_a1 := (bb23.cell (p := ⟨(W.heap.size + 1), 1, none⟩) lt_a1).trans c1_a1; have g23_2_a1 := (bb23.cell (p := ⟨(W.heap.size + 1), 2, none⟩) lt_a1).trans c2_a1)
        | (go_at_call 7; refine (to_mat r0 q0 _ zs0 _ (R0.out.below (B.out.trans (Below.mono (by first | with_reducible exact Below.refl _ _ | with_reducible exact (Below.refl _ _).drew | with_reducible exact (((Below.refl _ _).drew).alloc (Nat.le_refl _) _) | with_reducible exact ((Below.refl _ _).alloc (Nat.le_refl _) _) | with_reducible exact (((Below.refl _ _).alloc (Nat.le_refl _) _).drew)) B.out.size))) HN0.out HL0.out).mono ?_; rintro e w22 ⟨v_t5, x_t5, rfl, o_t5, bw22⟩; obtain ⟨a_t5, c_t5, rfl⟩ := o_t5.slice; have bb22 : Below w21.heap.size w21 w22 := (by first | with_reducible exact bw22 | with_reducible exact ((Below.refl _ _).drew).trans (bw22.mono (le_drew _)) | with_reducible exact (((Below.refl _ _).drew).alloc (Nat.le_refl _) _).trans (bw22.mono (by simp)) | with_reducible exact ((Below.refl _ _).alloc (Nat.le_refl _) _).trans (bw22.mono (by simp)) | with_reducible exact (((Below.refl _ _).alloc (Nat.le_refl _) _).drew).trans (bw22.mono (le_alloc_drew _ _))); (try with_reducible (have dz := (show B3 w22 w21.heap.size 28 (.int .i64 0) (.int .i64 0) (.slice none 0 0) from B3.below (show B3 (World.drew (w21.alloc (.cells #[.int .i64 0, .int .i64 0, .slice none 0 0] 28))) w21.heap.size 28 (.int .i64 0) (.int .i64 0) (.slice none 0 0) from B3.drew (B3.new _ _ _ _ _)) bw22); have pz : w21.heap.size ≤ w21.heap.size := Nat.le_refl _)); (try (have y0 := dz.c0; have y1 := dz.c1; have y2 := dz.c2; have y3 := dz.f 0; have y4 := dz.f 1; have y5 := dz.f 2)); have g22_0_a0 := (bb22.cell (p := ⟨W.heap.size, 0, none⟩) lt_a0).trans c0_a0; have g22_1_a0 := (bb22.cell (p := ⟨W.heap.size, 1, none⟩) lt_a0).trans c1_a0; have g22_2_a0 := (bb22.cell (p := ⟨W.heap.size, 2, none⟩) lt_a0).trans c2_a0; have g22_0_a1 := (bb22.cell (p := ⟨(W.heap.size + 1), 0, none⟩) lt_a1).trans c0_a1; have g22_1_a1 := (bb22.cell (p := ⟨(W.heap.size + 1), 1, none⟩) lt_a1).trans c1_a1; have g22_2_a1 := (bb22.cell (p := ⟨(W.heap.size + 1), 2, none⟩) lt_a1).trans c2_a1))
    all_goals go_wp2_with fail
    all_goals go_meet
    all_goals first
      | exact ⟨_, a_h0, c_h0, x_h0, rfl, rfl, dz.set3 _ _ _, (o_h0.set3_b3 dz (by decide) (by decide) _ _ _).base (by first | exact bb23.size | exact Nat.le_trans bb23.size (by simp)), ((bb24.setCell pz _).setCell pz _).setCell pz _⟩
      | exact ⟨_, a_h0, c_h0, x_h0, rfl, rfl, B3.new _ _ _ _ _, (o_h0.alloc _).base bb23.size, bb24.alloc bb24.size _⟩
  obtain ⟨p_h0, a_h0, c_h0, x_h0, rfl, rfl, hD, hO, hB⟩ := hcut
  obtain ⟨wc31, hwc⟩ : ∃ x, x = wc := ⟨_, rfl⟩
  rw [← hwc] at hD hO hB ⊢
  clear hwc
  clear c0_a0 c1_a0 c2_a0 lt_a0
  clear c0_a1 c1_a1 c2_a1 lt_a1
  replace O_w0 := Lib.hid (O_w0.out.below hB.out)
  replace O_g0 := Lib.hid (O_g0.out.below hB.out)
  replace D_a0 := Lib.hid (D_a0.out.below hB.out)
  replace D_a1 := Lib.hid (D_a1.out.below hB.out)
  replace D_w0 := Lib.hid (D_w0.out.below hB.out)
  replace D_x0 := Lib.hid (D_x0.out.below hB.out)
  replace D_x1 := Lib.hid (D_x1.out.below hB.out)
  replace D_g0 := Lib.hid (D_g0.out.below hB.out)
  have z_wc31 := Lib.hid hB.out.size
  have zp_h0 := Lib.hid hD.out.lt
  replace B := Lib.hid (B.out.trans (hB.out.mono B.out.size))
  have D_h0 := hD
  have O_h0 := hO
  have L_h0 := Lib.hid hO.out.lt
  clear hD hO hB
  have c0_h0 := D_h0.out.c0
  have c1_h0 := D_h0.out.c1
  have c2_h0 := D_h0.out.c2
  have c0_w0 := D_w0.out.c0
  have c1_w0 := D_w0.out.c1
  have c2_w0 := D_w0.out.c2
  go_wp2_with fail
  clear c0_h0 c1_h0 c2_h0
  clear c0_w0 c1_w0 c2_w0
  refine (eq_mat _ _ _ _ _ _ O_h0.out.rats O_w0.out.rats HAN.out).mono ?_
  rintro e w25 ⟨rfl, bw25⟩
  replace O_w0 := Lib.hid (O_w0.out.below bw25)
  replace O_g0 := Lib.hid (O_g0.out.below bw25)
  replace O_h0 := Lib.hid (O_h0.out.below bw25)
  replace D_a0 := Lib.hid (D_a0.out.below bw25)
  replace D_a1 := Lib.hid (D_a1.out.below bw25)
  replace D_w0 := Lib.hid (D_w0.out.below bw25)
  replace D_x0 := Lib.hid (D_x0.out.below bw25)
  replace D_x1 := Lib.hid (D_x1.out.below bw25)
  replace D_g0 := Lib.hid (D_g0.out.below bw25)
  replace D_h0 := Lib.hid (D_h0.out.below bw25)
  replace B := Lib.hid (B.out.trans (bw25.mono B.out.size))
  have z_w25 := Lib.hid bw25.size
  clear bw25
  have c0_g0 := D_g0.out.c0
  have c1_g0 := D_g0.out.c1
  have c2_g0 := D_g0.out.c2
  go_wp2_with fail
  clear c0_g0 c1_g0 c2_g0
  refine (held_mat _ _ _ (1) _ ZL _ (by simp) O_g0.out.rats (by have := HA.out; omega)).mono ?_
  rintro e w26 ⟨rfl, bw26⟩
  replace O_w0 := Lib.hid (O_w0.out.below bw26)
  replace O_g0 := Lib.hid (O_g0.out.below bw26)
  replace O_h0 := Lib.hid (O_h0.out.below bw26)
  replace D_a0 := Lib.hid (D_a0.out.below bw26)
  replace D_a1 := Lib.hid (D_a1.out.below bw26)
  replace D_w0 := Lib.hid (D_w0.out.below bw26)
  replace D_x0 := Lib.hid (D_x0.out.below bw26)
  replace D_x1 := Lib.hid (D_x1.out.below bw26)
  replace D_g0 := Lib.hid (D_g0.out.below bw26)
  replace D_h0 := Lib.hid (D_h0.out.below bw26)
  replace B := Lib.hid (B.out.trans (bw26.mono B.out.size))
  have z_w26 := Lib.hid bw26.size
  clear bw26
  go_wp2
  go_ret
  exact ⟨rfl, B.out⟩


end Go.Proofs.YtojklmckjebplaaGreat
