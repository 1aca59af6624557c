/- RatOps RatInt RatOk. -/
import Derived.Test.YtlepgkkpopjgoaaGreatYSpecCore
import Derived.Test.YtlepgkkpopjgoaaGreatYBigOfLaw
namespace Go.Proofs.YtlepgkkpopjgoaaGreat
open Go.RowKit Go.WideShapes Go.ChangeShapes
set_option linter.unusedVariables false
set_option linter.unusedSimpArgs false
set_option maxHeartbeats 2000000 in
theorem impl_timesR (b0 : Bool) (v0 : Value) (x : Nat) (d0 : Value) (d : Nat) (b1 : Bool) (v1 : Value) (y : Nat) (d1 : Value) (e : Nat) (w : World) (h0 : RowR w v0 (limI x) d0 (limI d)) (h1 : RowR w v1 (limI y) d1 (limI e))
  (hx : x < pw 24) (hd : d < pw 24) (hy : y < pw 24) (he : e < pw 24) (hd0 : 0 < d) (he0 : 0 < e) (g0 : Nat.gcd x d = 1) (g1 : Nat.gcd y e = 1) (n0 : b0 = true → 0 < x) (n1 : b1 = true → 0 < y) :
  Calls Tryz.prog 105 #[.agg #[.bool b0, v0, d0], .agg #[.bool b1, v1, d1]] w fun r w' => ∃ v dd, r = .returned (.agg #[.bool (mkB (!(b0 == b1)) (lowX (x * y) (d * e)) (lowD (x * y) (d * e))), v, dd]) ∧ OwnR w' w.heap.size v (mkZ (lowX (x * y) (d * e)) (lowD (x * y) (d * e))) dd (mkD (lowX (x * y) (d * e)) (lowD (x * y) (d * e))) ∧ Below w.heap.size w w' := by
 have LP := low_prod hd0 he0 g0 g1
 rw [LP.1, LP.2]
 have GX := Lib.hid (gcd_pos' (a := x) he0)
 have GY := Lib.hid (gcd_pos' (a := y) hd0)
 have PX : Hid (lowX x e * lowX y d < pw 60) := Lib.hid (Nat.lt_of_le_of_lt (Nat.mul_le_mul (low_le x e).1 (low_le y d).1) (Nat.lt_trans (mul24 hx hy) (pw_lt (by omega))))
 have PD := Lib.hid (Nat.mul_pos (lowD_pos (a := y) hd0) (lowD_pos (a := x) he0))
 have B_lxe := Lib.hid (nlen_mono (low_le x e).1)
 have B_dlxe := Lib.hid (nlen_mono (low_le x e).2)
 have B_lyd := Lib.hid (nlen_mono (low_le y d).1)
 have B_dlyd := Lib.hid (nlen_mono (low_le y d).2)
 have SG := Lib.hid (show ((!(b0 == b1)) && decide (0 < lowX x e * lowX y d)) = ((!(b0 == b1)) && decide (0 < lowX x e * lowX y d)) from rfl)
 have B_x := Lib.hid ((nlen_le_iff _ _).2 hx)
 have B_d := Lib.hid ((nlen_le_iff _ _).2 hd)
 have B_y := Lib.hid ((nlen_le_iff _ _).2 hy)
 have B_e := Lib.hid ((nlen_le_iff _ _).2 he)
 clear hx hd hy he hd0 he0 g0 g1 n0 n1 LP
 have RA_x := Lib.hid h0.1
 have RA_d := Lib.hid h0.2
 obtain ⟨⟨a0, c0, rfl, z1, z2, z3⟩, ⟨e0, f0, rfl, z4, z5, z6⟩⟩ := h0
 clear z1 z2 z3 z4 z5 z6
 have RA_y := Lib.hid h1.1
 have RA_e := Lib.hid h1.2
 obtain ⟨⟨a1, c1, rfl, z1, z2, z3⟩, ⟨e1, f1, rfl, z4, z5, z6⟩⟩ := h1
 clear z1 z2 z3 z4 z5 z6
 have L_x := Lib.hid (limI_length x)
 rw [limI_length] at RA_x
 try rw [limI_length x]
 obtain ⟨nx, hnx⟩ : ∃ n, nlen x = n := ⟨_, rfl⟩
 rw [hnx] at RA_x L_x
 try rw [hnx]
 have N_x := Lib.hid hnx
 clear hnx
 have L_d := Lib.hid (limI_length d)
 rw [limI_length] at RA_d
 try rw [limI_length d]
 obtain ⟨nd, hnd⟩ : ∃ n, nlen d = n := ⟨_, rfl⟩
 rw [hnd] at RA_d L_d
 try rw [hnd]
 have N_d := Lib.hid hnd
 clear hnd
 have L_y := Lib.hid (limI_length y)
 rw [limI_length] at RA_y
 try rw [limI_length y]
 obtain ⟨ny, hny⟩ : ∃ n, nlen y = n := ⟨_, rfl⟩
 rw [hny] at RA_y L_y
 try rw [hny]
 have N_y := Lib.hid hny
 clear hny
 have L_e := Lib.hid (limI_length e)
 rw [limI_length] at RA_e
 try rw [limI_length e]
 obtain ⟨ne, hne⟩ : ∃ n, nlen e = n := ⟨_, rfl⟩
 rw [hne] at RA_e L_e
 try rw [hne]
 have N_e := Lib.hid hne
 clear hne
 obtain ⟨s, hs⟩ : ∃ s, (!(b0 == b1)) = s := ⟨_, rfl⟩
 rw [hs]
 go_enter Tryz.func105, Tryz.ntmps105
 go_wp2_with fail
 obtain ⟨W0, hW0⟩ : ∃ x, x = (((w.alloc (.cells #[.bool b0, .slice a0 nx c0, .slice e0 nd f0] 34)).alloc (.cells #[.bool b1, .slice a1 ny c1, .slice e1 ne f1] 34)).alloc (.cells #[.bool false, .slice none 0 0, .slice none 0 0] 34)) := ⟨_, rfl⟩
 have B := Lib.hid (show Below w.heap.size w W0 by rw [hW0]; exact ((((Below.refl _ _).alloc (Nat.le_refl _) _).alloc (by simp) _).alloc (by simp; omega) _))
 have D_x := Lib.hid (rx_at (show Rx W0 _ 34 (b0) (.slice a0 nx c0) (.slice e0 nd f0) by rw [hW0]; exact ((Rx.new _ _ _ _ _).alloc _).alloc _) (show w.heap.size = _ by simp))
 have D_y := Lib.hid (rx_at (show Rx W0 _ 34 (b1) (.slice a1 ny c1) (.slice e1 ne f1) by rw [hW0]; exact (Rx.new _ _ _ _ _).alloc _) (show (w.heap.size + 1) = _ by simp))
 have D_r := Lib.hid (rx_at (show Rx W0 _ 34 (false) (.slice none 0 0) (.slice none 0 0) by rw [hW0]; exact Rx.new _ _ _ _ _) (show (w.heap.size + 1 + 1) = _ by simp))
 have SZ := Lib.hid (show W0.heap.size = w.heap.size + 1 + 1 + 1 by rw [hW0]; simp)
 rw [← hW0]
 clear hW0
 have BB := Lib.hid (Below.refl W0.heap.size W0)
 refine (impl_cancel _ _ x e _ (rowOf_below RA_x.out B.out) (rowOf_below RA_e.out B.out) GX.out (by have := B_x.out; omega) (by have := B_e.out; omega)).mono ?_
 rintro e w1 ⟨v_p, v_q, rfl, r_p, r_q, bw1⟩
 have Q_p := Lib.hid r_p
 clear r_p
 have Q_q := Lib.hid r_q
 clear r_q
 replace B := Lib.hid (B.out.trans (bw1.mono B.out.size))
 replace BB := Lib.hid (BB.out.trans (bw1.mono BB.out.size))
 clear bw1
 have c0_x := (D_x.out.below BB.out).c0
 have c1_x := (D_x.out.below BB.out).c1
 have c2_x := (D_x.out.below BB.out).c2
 have c0_y := (D_y.out.below BB.out).c0
 have c1_y := (D_y.out.below BB.out).c1
 have c2_y := (D_y.out.below BB.out).c2
 go_wp2_with fail
 clear c0_x c1_x c2_x
 clear c0_y c1_y c2_y
 refine (impl_cancel _ _ y d _ (rowOf_below RA_y.out B.out) (rowOf_below RA_d.out B.out) GY.out (by have := B_y.out; omega) (by have := B_d.out; omega)).mono ?_
 rintro e w2 ⟨v_u, v_z, rfl, r_u, r_z, bw2⟩
 replace Q_p := Lib.hid (rowOf_below Q_p.out bw2)
 replace Q_q := Lib.hid (rowOf_below Q_q.out bw2)
 have Q_u := Lib.hid r_u
 clear r_u
 have Q_z := Lib.hid r_z
 clear r_z
 replace B := Lib.hid (B.out.trans (bw2.mono B.out.size))
 replace BB := Lib.hid (BB.out.trans (bw2.mono BB.out.size))
 clear bw2
 have K_a := Lib.hid (fun (W : World) (hW : Below w2.heap.size w2 W) => pre_own (R := fun v => v) (impl_times _ _ (lowX x e) (lowX y d) W (rowOf_below Q_p.out hW) (rowOf_below Q_u.out hW) (by have := B_lxe.out; have := B_x.out; omega) (by have := B_lyd.out; have := B_y.out; omega)) hW)
 have K_b := Lib.hid (fun (W : World) (hW : Below w2.heap.size w2 W) (vv : Value) (hr : RowOf iV W vv (limI (lowX x e * lowX y d))) => pre_own (R := fun v => .agg #[.bool (s && decide (0 < lowX x e * lowX y d)), v]) (impl_withSignN s vv (lowX x e * lowX y d) W hr PX.out) hW)
 have K_c := Lib.hid (fun (W : World) (hW : Below w2.heap.size w2 W) => pre_own (R := fun v => v) (impl_times _ _ (lowD y d) (lowD x e) W (rowOf_below Q_z.out hW) (rowOf_below Q_q.out hW) (by have := B_dlyd.out; have := B_d.out; omega) (by have := B_dlxe.out; have := B_e.out; omega)) hW)
 have K_q := Lib.hid (fun (W : World) (hW : Below w2.heap.size w2 W) (b : Bool) (a : Option Addr) (n c : Nat) (e : Option Addr) (m f : Nat) => pre_lim (impl_limitedR2 b a n c e m f W) hW)
 have c0_x := (D_x.out.below BB.out).c0
 have c1_x := (D_x.out.below BB.out).c1
 have c2_x := (D_x.out.below BB.out).c2
 have c0_y := (D_y.out.below BB.out).c0
 have c1_y := (D_y.out.below BB.out).c1
 have c2_y := (D_y.out.below BB.out).c2
 go_wp2_with fail
 have HS := Lib.hid (show ∀ W : World, Below w2.heap.size w2 W → (W.cell? ⟨w.heap.size, 0, none⟩ = some (.bool b0) ∧ W.cell? ⟨w.heap.size, 1, none⟩ = some (.slice a0 nx c0) ∧ W.cell? ⟨w.heap.size, 2, none⟩ = some (.slice e0 nd f0) ∧ W.cell? ⟨(w.heap.size + 1), 0, none⟩ = some (.bool b1) ∧ W.cell? ⟨(w.heap.size + 1), 1, none⟩ = some (.slice a1 ny c1) ∧ W.cell? ⟨(w.heap.size + 1), 2, none⟩ = some (.slice e1 ne f1)) from fun W hW => ⟨(hW.cell (p := ⟨w.heap.size, 0, none⟩) (D_x.out.below BB.out).lt).trans c0_x, (hW.cell (p := ⟨w.heap.size, 1, none⟩) (D_x.out.below BB.out).lt).trans c1_x, (hW.cell (p := ⟨w.heap.size, 2, none⟩) (D_x.out.below BB.out).lt).trans c2_x, (hW.cell (p := ⟨(w.heap.size + 1), 0, none⟩) (D_y.out.below BB.out).lt).trans c0_y, (hW.cell (p := ⟨(w.heap.size + 1), 1, none⟩) (D_y.out.below BB.out).lt).trans c1_y, (hW.cell (p := ⟨(w.heap.size + 1), 2, none⟩) (D_y.out.below BB.out).lt).trans c2_y⟩)
 have lt_x := (D_x.out.below BB.out).lt
 have lt_y := (D_y.out.below BB.out).lt
 have c0_r := (D_r.out.below BB.out).c0
 have c1_r := (D_r.out.below BB.out).c1
 have c2_r := (D_r.out.below BB.out).c2
 have f0_r := (D_r.out.below BB.out).f 0
 have f1_r := (D_r.out.below BB.out).f 1
 have f2_r := (D_r.out.below BB.out).f 2
 have HF := Lib.hid (show ∀ W : World, Below w2.heap.size w2 W → (W.cell? ⟨(w.heap.size + 1 + 1), 0, none⟩ = some (.bool false) ∧ W.cell? ⟨(w.heap.size + 1 + 1), 1, none⟩ = some (.slice none 0 0) ∧ W.cell? ⟨(w.heap.size + 1 + 1), 2, none⟩ = some (.slice none 0 0) ∧ W.frozen? ⟨(w.heap.size + 1 + 1), 0, none⟩ = false ∧ W.frozen? ⟨(w.heap.size + 1 + 1), 1, none⟩ = false ∧ W.frozen? ⟨(w.heap.size + 1 + 1), 2, none⟩ = false) from fun W hW => ⟨(hW.cell (p := ⟨(w.heap.size + 1 + 1), 0, none⟩) (D_r.out.below BB.out).lt).trans c0_r, (hW.cell (p := ⟨(w.heap.size + 1 + 1), 1, none⟩) (D_r.out.below BB.out).lt).trans c1_r, (hW.cell (p := ⟨(w.heap.size + 1 + 1), 2, none⟩) (D_r.out.below BB.out).lt).trans c2_r, (hW.frozen (p := ⟨(w.heap.size + 1 + 1), 0, none⟩) (D_r.out.below BB.out).lt).trans f0_r, (hW.frozen (p := ⟨(w.heap.size + 1 + 1), 1, none⟩) (D_r.out.below BB.out).lt).trans f1_r, (hW.frozen (p := ⟨(w.heap.size + 1 + 1), 2, none⟩) (D_r.out.below BB.out).lt).trans f2_r⟩)
 go_region_held3 (fun w' => w'.cell? ⟨w.heap.size, 0, none⟩ = some (.bool b0) ∧ w'.cell? ⟨w.heap.size, 1, none⟩ = some (.slice a0 nx c0) ∧ w'.cell? ⟨w.heap.size, 2, none⟩ = some (.slice e0 nd f0) ∧ w'.cell? ⟨(w.heap.size + 1), 0, none⟩ = some (.bool b1) ∧ w'.cell? ⟨(w.heap.size + 1), 1, none⟩ = some (.slice a1 ny c1) ∧ w'.cell? ⟨(w.heap.size + 1), 2, none⟩ = some (.slice e1 ne f1)) (first | exact HS.out _ (by first | with_reducible exact Below.refl _ _ | with_reducible exact (Below.refl _ _).drew | with_reducible exact bb_a | with_reducible exact bb_b | with_reducible exact bb_c | with_reducible exact bb_q) | exact ⟨(cell_far3 (show w.heap.size ≠ (w.heap.size + 1 + 1) from by omega) _ _ _).trans ((HS.out _ (by first | with_reducible exact Below.refl _ _ | with_reducible exact (Below.refl _ _).drew | with_reducible exact bb_a | with_reducible exact bb_b | with_reducible exact bb_c | with_reducible exact bb_q)).1), (cell_far3 (show w.heap.size ≠ (w.heap.size + 1 + 1) from by omega) _ _ _).trans ((HS.out _ (by first | with_reducible exact Below.refl _ _ | with_reducible exact (Below.refl _ _).drew | with_reducible exact bb_a | with_reducible exact bb_b | with_reducible exact bb_c | with_reducible exact bb_q)).2.1), (cell_far3 (show w.heap.size ≠ (w.heap.size + 1 + 1) from by omega) _ _ _).trans ((HS.out _ (by first | with_reducible exact Below.refl _ _ | with_reducible exact (Below.refl _ _).drew | with_reducible exact bb_a | with_reducible exact bb_b | with_reducible exact bb_c | with_reducible exact bb_q)).2.2.1), (cell_far3 (show (w.heap.size + 1) ≠ (w.heap.size + 1 + 1) from by omega) _ _ _).trans ((HS.out _ (by first | with_reducible exact Below.refl _ _ | with_reducible exact (Below.refl _ _).drew | with_reducible exact bb_a | with_reducible exact bb_b | with_reducible exact bb_c | with_reducible exact bb_q)).2.2.2.1), (cell_far3 (show (w.heap.size + 1) ≠ (w.heap.size + 1 + 1) from by omega) _ _ _).trans ((HS.out _ (by first | with_reducible exact Below.refl _ _ | with_reducible exact (Below.refl _ _).drew | with_reducible exact bb_a | with_reducible exact bb_b | with_reducible exact bb_c | with_reducible exact bb_q)).2.2.2.2.1), (cell_far3 (show (w.heap.size + 1) ≠ (w.heap.size + 1 + 1) from by omega) _ _ _).trans ((HS.out _ (by first | with_reducible exact Below.refl _ _ | with_reducible exact (Below.refl _ _).drew | with_reducible exact bb_a | with_reducible exact bb_b | with_reducible exact bb_c | with_reducible exact bb_q)).2.2.2.2.2)⟩)
  (first
   | (go_at_call 145; refine (K_q.out _ (by first | with_reducible exact Below.refl _ _ | with_reducible exact (Below.refl _ _).drew | with_reducible exact bb_a | with_reducible exact bb_b | with_reducible exact bb_c | with_reducible exact bb_q) _ _ _ _ _ _ _).mono ?_; rintro e w_q ⟨b9, a9, n9, c9, e9, m9, f9, rfl, hL, bw_q, bb_q⟩; (try first | with_reducible (have o_a := o_a.below bw_q)); (try first | with_reducible (have o_b := o_b.below bw_q)); (try first | with_reducible (have o_c := o_c.below bw_q)); obtain ⟨s0, s1, s2, t0, t1, t2⟩ := HF.out _ bb_q)
   | (go_at_call 144; with_reducible refine (K_c.out _ (by first | with_reducible exact Below.refl _ _ | with_reducible exact (Below.refl _ _).drew | with_reducible exact bb_a | with_reducible exact bb_b | with_reducible exact bb_c | with_reducible exact bb_q)).mono ?_; rintro e w_c ⟨v_c, rfl, o_c, lo_c, bw_c, bb_c⟩; obtain ⟨a_c, c_c, rfl⟩ := o_c.slice; (try with_reducible (have ap_b_c := apart_lo o_b lo_c)); (try first | with_reducible (have o_a := o_a.below bw_c)); (try first | with_reducible (have o_b := o_b.below bw_c)); obtain ⟨s0, s1, s2, t0, t1, t2⟩ := HF.out _ bb_c)
   | (go_at_call 141; refine (K_b.out _ (by first | with_reducible exact Below.refl _ _ | with_reducible exact (Below.refl _ _).drew | with_reducible exact bb_a | with_reducible exact bb_b | with_reducible exact bb_c | with_reducible exact bb_q) _ (by first | with_reducible exact o_a.row)).mono ?_; rintro e w_b ⟨v_b, rfl, o_b, lo_b, bw_b, bb_b⟩; obtain ⟨a_b, c_b, rfl⟩ := o_b.slice; (try with_reducible (have ap_c_b := apart_lo o_c lo_b)); (try first | with_reducible (have o_a := o_a.below bw_b)); (try first | with_reducible (have o_c := o_c.below bw_b)); obtain ⟨s0, s1, s2, t0, t1, t2⟩ := HF.out _ bb_b)
   | (go_at_call 144; with_reducible refine (K_a.out _ (by first | with_reducible exact Below.refl _ _ | with_reducible exact (Below.refl _ _).drew | with_reducible exact bb_a | with_reducible exact bb_b | with_reducible exact bb_c | with_reducible exact bb_q)).mono ?_; rintro e w_a ⟨v_a, rfl, o_a, lo_a, bw_a, bb_a⟩; obtain ⟨a_a, c_a, rfl⟩ := o_a.slice; (try first | with_reducible (have o_b := o_b.below bw_a)); (try first | with_reducible (have o_c := o_c.below bw_a)); obtain ⟨s0, s1, s2, t0, t1, t2⟩ := HF.out _ bb_a))
 all_goals (
  have D9 := D_r.out.below (BB.out.trans (bb_q.mono BB.out.size))
  obtain ⟨hb9, ho9⟩ := lim_ownL (s := s) hL PD.out rfl (⟨o_b.base BB.out.size, o_c.base BB.out.size, by first | exact ap_b_c | exact ap_c_b.symm⟩)
  subst hb9
  obtain ⟨e1, e2⟩ := rat_end (b' := mkB (s) (lowX x e * lowX y d) (lowD y d * lowD x e)) (B.out.trans (bb_q.mono B.out.size)) D9 ho9 (by decide) (by have := SZ.out; omega) (by omega) (.slice a9 n9 c9) (.slice e9 m9 f9)
  have D8 := Rx.set3 (b' := mkB (s) (lowX x e * lowX y d) (lowD y d * lowD x e)) (v' := .slice a9 n9 c9) (d' := .slice e9 m9 f9) D9
  have hc0 := D8.c0
  have hc1 := D8.c1
  have hc2 := D8.c2
  go_wp2
  exact bodyPost_ret (v := .agg #[.bool (mkB (s) (lowX x e * lowX y d) (lowD y d * lowD x e)), .slice a9 n9 c9, .slice e9 m9 f9]) (by simp [results, Tryz.results105, go_sem, hc0, hc1, hc2]) rfl ⟨_, _, rfl, e1, e2⟩)
set_option maxHeartbeats 2000000 in
theorem impl_plusR (b0 : Bool) (v0 : Value) (x : Nat) (d0 : Value) (d : Nat) (b1 : Bool) (v1 : Value) (y : Nat) (d1 : Value) (e : Nat) (w : World) (h0 : RowR w v0 (limI x) d0 (limI d)) (h1 : RowR w v1 (limI y) d1 (limI e))
  (hx : x < pw 24) (hd : d < pw 24) (hy : y < pw 24) (he : e < pw 24) (hd0 : 0 < d) (he0 : 0 < e) (g0 : Nat.gcd x d = 1) (g1 : Nat.gcd y e = 1) (n0 : b0 = true → 0 < x) (n1 : b1 = true → 0 < y) :
  Calls Tryz.prog 149 #[.agg #[.bool b0, v0, d0], .agg #[.bool b1, v1, d1]] w fun r w' => ∃ v dd, r = .returned (.agg #[.bool (mkB (sgAddB b0 (x * e) b1 (y * d)) (lowX (sgAddN b0 (x * e) b1 (y * d)) (d * e)) (lowD (sgAddN b0 (x * e) b1 (y * d)) (d * e))), v, dd]) ∧ OwnR w' w.heap.size v (mkZ (lowX (sgAddN b0 (x * e) b1 (y * d)) (d * e)) (lowD (sgAddN b0 (x * e) b1 (y * d)) (d * e))) dd (mkD (lowX (sgAddN b0 (x * e) b1 (y * d)) (d * e)) (lowD (sgAddN b0 (x * e) b1 (y * d)) (d * e))) ∧ Below w.heap.size w w' := by
 obtain ⟨N, hN, e1, e2, e3⟩ := low_add (b0 := b0) (b1 := b1) hd0 he0 g0 g1
 rw [e1, e2, e3]
 clear e1 e2 e3
 have GG := Lib.hid (gcd_pos' (a := d) he0)
 have B_g := Lib.hid (Nat.le_trans (nlen_mono (Nat.gcd_le_left e hd0)) ((nlen_le_iff _ _).2 hd))
 have B_l := Lib.hid (nlen_mono (Nat.div_le_self d (Nat.gcd d e)))
 have B_r := Lib.hid (nlen_mono (Nat.div_le_self e (Nat.gcd d e)))
 have hN1 : N < pw 49 := by rw [hN]; exact Nat.lt_of_le_of_lt (sgAddN_le _ _ _ _) (add48 (Nat.lt_of_le_of_lt (Nat.mul_le_mul_left x (Nat.div_le_self e _)) (mul24 hx he)) (Nat.lt_of_le_of_lt (Nat.mul_le_mul_left y (Nat.div_le_self d _)) (mul24 hy hd)))
 have PN := Lib.hid (show N < pw 60 from Nat.lt_trans hN1 (pw_lt (by omega)))
 have B_n := Lib.hid ((nlen_le_iff _ _).2 hN1)
 have B_xr := Lib.hid ((nlen_le_iff _ _).2 (Nat.lt_of_le_of_lt (Nat.mul_le_mul_left x (Nat.div_le_self e (Nat.gcd d e))) (mul24 hx he)))
 have B_yl := Lib.hid ((nlen_le_iff _ _).2 (Nat.lt_of_le_of_lt (Nat.mul_le_mul_left y (Nat.div_le_self d (Nat.gcd d e))) (mul24 hy hd)))
 have GK := Lib.hid (gcd_pos' (a := N) GG.out)
 have B_k := Lib.hid (Nat.le_trans (nlen_mono (Nat.gcd_le_right N GG.out)) B_g.out)
 have B_ek := Lib.hid (nlen_mono (Nat.div_le_self e (Nat.gcd N (Nat.gcd d e))))
 have PD : Hid (0 < d / Nat.gcd d e * (e / Nat.gcd N (Nat.gcd d e))) := Lib.hid (Nat.mul_pos (Nat.div_pos (Nat.le_of_dvd hd0 (Nat.gcd_dvd_left d e)) GG.out) (Nat.div_pos (Nat.le_of_dvd he0 (Nat.dvd_trans (Nat.gcd_dvd_right N _) (Nat.gcd_dvd_right d e))) GK.out))
 have PS : Hid ((sgAddB b0 (x * (e / Nat.gcd d e)) b1 (y * (d / Nat.gcd d e)) && decide (0 < N)) = (sgAddB b0 (x * (e / Nat.gcd d e)) b1 (y * (d / Nat.gcd d e)) && decide (0 < N / Nat.gcd N (Nat.gcd d e)))) := Lib.hid (by congr 1; exact decide_eq_decide.2 (div_pos_iff (Nat.gcd_dvd_left N _) GK.out))
 have HN := Lib.hid hN
 have B_x := Lib.hid ((nlen_le_iff _ _).2 hx)
 have B_d := Lib.hid ((nlen_le_iff _ _).2 hd)
 have B_y := Lib.hid ((nlen_le_iff _ _).2 hy)
 have B_e := Lib.hid ((nlen_le_iff _ _).2 he)
 clear hx hd hy he hd0 he0 g0 g1 n0 n1 hN hN1
 have RA_x := Lib.hid h0.1
 have RA_d := Lib.hid h0.2
 obtain ⟨⟨a0, c0, rfl, z1, z2, z3⟩, ⟨e0, f0, rfl, z4, z5, z6⟩⟩ := h0
 clear z1 z2 z3 z4 z5 z6
 have RA_y := Lib.hid h1.1
 have RA_e := Lib.hid h1.2
 obtain ⟨⟨a1, c1, rfl, z1, z2, z3⟩, ⟨e1, f1, rfl, z4, z5, z6⟩⟩ := h1
 clear z1 z2 z3 z4 z5 z6
 have L_x := Lib.hid (limI_length x)
 rw [limI_length] at RA_x
 try rw [limI_length x]
 obtain ⟨nx, hnx⟩ : ∃ n, nlen x = n := ⟨_, rfl⟩
 rw [hnx] at RA_x L_x
 try rw [hnx]
 have N_x := Lib.hid hnx
 clear hnx
 have L_d := Lib.hid (limI_length d)
 rw [limI_length] at RA_d
 try rw [limI_length d]
 obtain ⟨nd, hnd⟩ : ∃ n, nlen d = n := ⟨_, rfl⟩
 rw [hnd] at RA_d L_d
 try rw [hnd]
 have N_d := Lib.hid hnd
 clear hnd
 have L_y := Lib.hid (limI_length y)
 rw [limI_length] at RA_y
 try rw [limI_length y]
 obtain ⟨ny, hny⟩ : ∃ n, nlen y = n := ⟨_, rfl⟩
 rw [hny] at RA_y L_y
 try rw [hny]
 have N_y := Lib.hid hny
 clear hny
 have L_e := Lib.hid (limI_length e)
 rw [limI_length] at RA_e
 try rw [limI_length e]
 obtain ⟨ne, hne⟩ : ∃ n, nlen e = n := ⟨_, rfl⟩
 rw [hne] at RA_e L_e
 try rw [hne]
 have N_e := Lib.hid hne
 clear hne
 obtain ⟨g, hg⟩ : ∃ g, Nat.gcd d e = g := ⟨_, rfl⟩
 have HG := Lib.hid hg
 rw [hg] at GG B_g B_l B_r HN B_xr B_yl GK B_k B_ek PD PS ⊢
 clear hg
 obtain ⟨l, hl⟩ : ∃ l, d / g = l := ⟨_, rfl⟩
 have HL := Lib.hid hl
 rw [hl] at B_l HN B_yl PD PS ⊢
 clear hl
 obtain ⟨r, hr⟩ : ∃ r, e / g = r := ⟨_, rfl⟩
 have HR := Lib.hid hr
 rw [hr] at B_r HN B_xr PS ⊢
 clear hr
 obtain ⟨s, hs⟩ : ∃ s, sgAddB b0 (x * r) b1 (y * l) = s := ⟨_, rfl⟩
 have HS0 := Lib.hid hs
 rw [hs] at PS ⊢
 clear hs
 obtain ⟨k, hk⟩ : ∃ k, Nat.gcd N g = k := ⟨_, rfl⟩
 have HK := Lib.hid hk
 rw [hk] at GK B_k B_ek PD PS ⊢
 clear hk
 go_enter Tryz.func149, Tryz.ntmps149
 go_wp2_with fail
 obtain ⟨W0, hW0⟩ : ∃ x, x = (((w.alloc (.cells #[.bool b0, .slice a0 nx c0, .slice e0 nd f0] 34)).alloc (.cells #[.bool b1, .slice a1 ny c1, .slice e1 ne f1] 34)).alloc (.cells #[.bool false, .slice none 0 0, .slice none 0 0] 34)) := ⟨_, rfl⟩
 have B := Lib.hid (show Below w.heap.size w W0 by rw [hW0]; exact ((((Below.refl _ _).alloc (Nat.le_refl _) _).alloc (by simp) _).alloc (by simp; omega) _))
 have D_x := Lib.hid (rx_at (show Rx W0 _ 34 (b0) (.slice a0 nx c0) (.slice e0 nd f0) by rw [hW0]; exact ((Rx.new _ _ _ _ _).alloc _).alloc _) (show w.heap.size = _ by simp))
 have D_y := Lib.hid (rx_at (show Rx W0 _ 34 (b1) (.slice a1 ny c1) (.slice e1 ne f1) by rw [hW0]; exact (Rx.new _ _ _ _ _).alloc _) (show (w.heap.size + 1) = _ by simp))
 have D_r := Lib.hid (rx_at (show Rx W0 _ 34 (false) (.slice none 0 0) (.slice none 0 0) by rw [hW0]; exact Rx.new _ _ _ _ _) (show (w.heap.size + 1 + 1) = _ by simp))
 have SZ := Lib.hid (show W0.heap.size = w.heap.size + 1 + 1 + 1 by rw [hW0]; simp)
 rw [← hW0]
 clear hW0
 have BB := Lib.hid (Below.refl W0.heap.size W0)
 have hg9 := HG.out
 refine (impl_common _ _ d e _ (rowOf_below RA_d.out B.out) (rowOf_below RA_e.out B.out) (by have := B_d.out; omega) (by have := B_e.out; omega)).mono ?_
 rw [hg9]
 clear hg9
 rintro e w1 ⟨v_g, rfl, o_g, bw1⟩
 obtain ⟨a_g, c_g, rfl⟩ := o_g.slice
 have Q_g := Lib.hid o_g.row
 clear o_g
 replace B := Lib.hid (B.out.trans (bw1.mono B.out.size))
 replace BB := Lib.hid (BB.out.trans (bw1.mono BB.out.size))
 clear bw1
 have K_l := Lib.hid (fun (W : World) (hW : Below w1.heap.size w1 W) => pre_row (impl_over _ _ d g W (rowOf_below (rowOf_below RA_d.out B.out) hW) (rowOf_below Q_g.out hW) GG.out (by have := B_d.out; omega) (by have := B_g.out; omega)) hW)
 have K_s := Lib.hid (fun (W : World) (hW : Below w1.heap.size w1 W) => pre_row (impl_over _ _ e g W (rowOf_below (rowOf_below RA_e.out B.out) hW) (rowOf_below Q_g.out hW) GG.out (by have := B_e.out; omega) (by have := B_g.out; omega)) hW)
 rw [HL.out] at K_l
 rw [HR.out] at K_s
 have c0_x := (D_x.out.below BB.out).c0
 have c1_x := (D_x.out.below BB.out).c1
 have c2_x := (D_x.out.below BB.out).c2
 have c0_y := (D_y.out.below BB.out).c0
 have c1_y := (D_y.out.below BB.out).c1
 have c2_y := (D_y.out.below BB.out).c2
 go_upto_region 2 with fail
 have HS := Lib.hid (show ∀ W : World, Below w1.heap.size w1 W → (W.cell? ⟨w.heap.size, 0, none⟩ = some (.bool b0) ∧ W.cell? ⟨w.heap.size, 1, none⟩ = some (.slice a0 nx c0) ∧ W.cell? ⟨w.heap.size, 2, none⟩ = some (.slice e0 nd f0) ∧ W.cell? ⟨(w.heap.size + 1), 0, none⟩ = some (.bool b1) ∧ W.cell? ⟨(w.heap.size + 1), 1, none⟩ = some (.slice a1 ny c1) ∧ W.cell? ⟨(w.heap.size + 1), 2, none⟩ = some (.slice e1 ne f1)) from fun W hW => ⟨(hW.cell (p := ⟨w.heap.size, 0, none⟩) (D_x.out.below BB.out).lt).trans c0_x, (hW.cell (p := ⟨w.heap.size, 1, none⟩) (D_x.out.below BB.out).lt).trans c1_x, (hW.cell (p := ⟨w.heap.size, 2, none⟩) (D_x.out.below BB.out).lt).trans c2_x, (hW.cell (p := ⟨(w.heap.size + 1), 0, none⟩) (D_y.out.below BB.out).lt).trans c0_y, (hW.cell (p := ⟨(w.heap.size + 1), 1, none⟩) (D_y.out.below BB.out).lt).trans c1_y, (hW.cell (p := ⟨(w.heap.size + 1), 2, none⟩) (D_y.out.below BB.out).lt).trans c2_y⟩)
 have lt_x := (D_x.out.below BB.out).lt
 have lt_y := (D_y.out.below BB.out).lt
 go_cut [6, 7] from 15 (fun q0 q1 wc => ∃ v6 v7, v6 = q0 ∧ v7 = q1 ∧ Hid (RowOf iV wc v6 (limI l)) ∧ Hid (RowOf iV wc v7 (limI r)) ∧ Hid (Below w1.heap.size w1 wc))
 case first =>
  go_region_held3 (fun w' => w'.cell? ⟨w.heap.size, 0, none⟩ = some (.bool b0) ∧ w'.cell? ⟨w.heap.size, 1, none⟩ = some (.slice a0 nx c0) ∧ w'.cell? ⟨w.heap.size, 2, none⟩ = some (.slice e0 nd f0) ∧ w'.cell? ⟨(w.heap.size + 1), 0, none⟩ = some (.bool b1) ∧ w'.cell? ⟨(w.heap.size + 1), 1, none⟩ = some (.slice a1 ny c1) ∧ w'.cell? ⟨(w.heap.size + 1), 2, none⟩ = some (.slice e1 ne f1)) (first | exact HS.out _ (by first | with_reducible exact Below.refl _ _ | with_reducible exact (Below.refl _ _).drew | with_reducible exact bb_l | with_reducible exact bb_s))
   (first
    | (go_at_call 167; with_reducible refine (K_s.out _ (by first | with_reducible exact Below.refl _ _ | with_reducible exact (Below.refl _ _).drew | with_reducible exact bb_l | with_reducible exact bb_s)).mono ?_; rintro e w_s ⟨v_s, rfl, r_s, bw_s, bb_s⟩; obtain ⟨a_s, c_s, rfl⟩ := rowOf_form r_s; (try first | with_reducible (have r_l := rowOf_below r_l bw_s)))
    | (go_at_call 167; with_reducible refine (K_l.out _ (by first | with_reducible exact Below.refl _ _ | with_reducible exact (Below.refl _ _).drew | with_reducible exact bb_l | with_reducible exact bb_s)).mono ?_; rintro e w_l ⟨v_l, rfl, r_l, bw_l, bb_l⟩; obtain ⟨a_l, c_l, rfl⟩ := rowOf_form r_l; (try first | with_reducible (have r_s := rowOf_below r_s bw_l))))
  all_goals go_wp2_with fail
  all_goals go_meet
  all_goals first
   | exact ⟨_, _, rfl, rfl, Lib.hid r_l, Lib.hid r_s, Lib.hid bb_s⟩
   | exact ⟨_, _, rfl, rfl, Lib.hid r_l, Lib.hid r_s, Lib.hid bb_l⟩
 clear c0_x c1_x c2_x
 clear c0_y c1_y c2_y
 clear HS lt_x lt_y
 obtain ⟨v_l, v_s, rfl, rfl, rl, rr, hB⟩ := hcut
 obtain ⟨wc2, hwc⟩ : ∃ x, x = wc := ⟨_, rfl⟩
 simp only [← hwc] at *
 clear hwc
 have bw9 := hB.out
 replace Q_g := Lib.hid (rowOf_below Q_g.out bw9)
 have Q_l := rl
 have Q_s := rr
 clear rl rr K_l K_s
 replace B := Lib.hid (B.out.trans (bw9.mono B.out.size))
 replace BB := Lib.hid (BB.out.trans (bw9.mono BB.out.size))
 clear hB bw9
 have K_a := Lib.hid (fun (W : World) (hW : Below wc2.heap.size wc2 W) => pre_own (R := fun v => v) (impl_times _ _ x r W (rowOf_below (rowOf_below RA_x.out B.out) hW) (rowOf_below Q_s.out hW) (by have := B_x.out; omega) (by have := B_r.out; have := B_e.out; omega)) hW)
 have K_b := Lib.hid (fun (W : World) (hW : Below wc2.heap.size wc2 W) => pre_own (R := fun v => v) (impl_times _ _ y l W (rowOf_below (rowOf_below RA_y.out B.out) hW) (rowOf_below Q_l.out hW) (by have := B_y.out; omega) (by have := B_l.out; have := B_d.out; omega)) hW)
 have K_c := Lib.hid (fun (W : World) (hW : Below wc2.heap.size wc2 W) (va vb : Value) (ha : RowOf iV W va (limI (x * r))) (hb : RowOf iV W vb (limI (y * l))) => pre_own (R := fun v => .agg #[.bool (sgAddB b0 (x * r) b1 (y * l) && decide (0 < sgAddN b0 (x * r) b1 (y * l))), v]) (impl_plusN b0 va (x * r) b1 vb (y * l) W ha hb (by have := B_xr.out; omega) (by have := B_yl.out; omega) (by rw [← HN.out]; exact PN.out)) hW)
 rw [HS0.out, ← HN.out] at K_c
 have c0_x := (D_x.out.below BB.out).c0
 have c1_x := (D_x.out.below BB.out).c1
 have c2_x := (D_x.out.below BB.out).c2
 have c0_y := (D_y.out.below BB.out).c0
 have c1_y := (D_y.out.below BB.out).c1
 have c2_y := (D_y.out.below BB.out).c2
 go_upto_region 3 with fail
 have HS := Lib.hid (show ∀ W : World, Below wc2.heap.size wc2 W → (W.cell? ⟨w.heap.size, 0, none⟩ = some (.bool b0) ∧ W.cell? ⟨w.heap.size, 1, none⟩ = some (.slice a0 nx c0) ∧ W.cell? ⟨w.heap.size, 2, none⟩ = some (.slice e0 nd f0) ∧ W.cell? ⟨(w.heap.size + 1), 0, none⟩ = some (.bool b1) ∧ W.cell? ⟨(w.heap.size + 1), 1, none⟩ = some (.slice a1 ny c1) ∧ W.cell? ⟨(w.heap.size + 1), 2, none⟩ = some (.slice e1 ne f1)) from fun W hW => ⟨(hW.cell (p := ⟨w.heap.size, 0, none⟩) (D_x.out.below BB.out).lt).trans c0_x, (hW.cell (p := ⟨w.heap.size, 1, none⟩) (D_x.out.below BB.out).lt).trans c1_x, (hW.cell (p := ⟨w.heap.size, 2, none⟩) (D_x.out.below BB.out).lt).trans c2_x, (hW.cell (p := ⟨(w.heap.size + 1), 0, none⟩) (D_y.out.below BB.out).lt).trans c0_y, (hW.cell (p := ⟨(w.heap.size + 1), 1, none⟩) (D_y.out.below BB.out).lt).trans c1_y, (hW.cell (p := ⟨(w.heap.size + 1), 2, none⟩) (D_y.out.below BB.out).lt).trans c2_y⟩)
 have lt_x := (D_x.out.below BB.out).lt
 have lt_y := (D_y.out.below BB.out).lt
 go_cut [8] from 23 (fun q0 wc => ∃ (p : Nat) (a_n : Option Addr) (n_n c_n : Nat), q0 = .pointer (some ⟨p, 0, none⟩) ∧ Hid (Bx wc p 32 (s && decide (0 < N)) (.slice a_n n_n c_n)) ∧ Hid (OwnI wc wc2.heap.size (.slice a_n n_n c_n) (limI N)) ∧ Hid (wc2.heap.size ≤ p) ∧ Hid (Below wc2.heap.size wc2 wc))
 case first =>
  go_region_held3 (fun w' => w'.cell? ⟨w.heap.size, 0, none⟩ = some (.bool b0) ∧ w'.cell? ⟨w.heap.size, 1, none⟩ = some (.slice a0 nx c0) ∧ w'.cell? ⟨w.heap.size, 2, none⟩ = some (.slice e0 nd f0) ∧ w'.cell? ⟨(w.heap.size + 1), 0, none⟩ = some (.bool b1) ∧ w'.cell? ⟨(w.heap.size + 1), 1, none⟩ = some (.slice a1 ny c1) ∧ w'.cell? ⟨(w.heap.size + 1), 2, none⟩ = some (.slice e1 ne f1)) (first | exact HS.out _ (by first | with_reducible exact Below.refl _ _ | with_reducible exact (Below.refl _ _).drew | with_reducible exact bb_a | with_reducible exact bb_b | with_reducible exact bb_c | with_reducible exact (Below.refl _ _).alloc (Nat.le_refl _) _ | with_reducible exact ((Below.refl _ _).alloc (Nat.le_refl _) _).drew | with_reducible exact bb_a.alloc bb_a.size _ | with_reducible exact bb_b.alloc bb_b.size _ | with_reducible exact bb_c.alloc bb_c.size _) | exact ⟨(cell_far (show w.heap.size ≠ _ from fun e => absurd pz (by omega)) _ _).trans ((HS.out _ (by first | with_reducible exact Below.refl _ _ | with_reducible exact (Below.refl _ _).drew | with_reducible exact bb_a | with_reducible exact bb_b | with_reducible exact bb_c | with_reducible exact (Below.refl _ _).alloc (Nat.le_refl _) _ | with_reducible exact ((Below.refl _ _).alloc (Nat.le_refl _) _).drew | with_reducible exact bb_a.alloc bb_a.size _ | with_reducible exact bb_b.alloc bb_b.size _ | with_reducible exact bb_c.alloc bb_c.size _)).1), (cell_far (show w.heap.size ≠ _ from fun e => absurd pz (by omega)) _ _).trans ((HS.out _ (by first | with_reducible exact Below.refl _ _ | with_reducible exact (Below.refl _ _).drew | with_reducible exact bb_a | with_reducible exact bb_b | with_reducible exact bb_c | with_reducible exact (Below.refl _ _).alloc (Nat.le_refl _) _ | with_reducible exact ((Below.refl _ _).alloc (Nat.le_refl _) _).drew | with_reducible exact bb_a.alloc bb_a.size _ | with_reducible exact bb_b.alloc bb_b.size _ | with_reducible exact bb_c.alloc bb_c.size _)).2.1), (cell_far (show w.heap.size ≠ _ from fun e => absurd pz (by omega)) _ _).trans ((HS.out _ (by first | with_reducible exact Below.refl _ _ | with_reducible exact (Below.refl _ _).drew | with_reducible exact bb_a | with_reducible exact bb_b | with_reducible exact bb_c | with_reducible exact (Below.refl _ _).alloc (Nat.le_refl _) _ | with_reducible exact ((Below.refl _ _).alloc (Nat.le_refl _) _).drew | with_reducible exact bb_a.alloc bb_a.size _ | with_reducible exact bb_b.alloc bb_b.size _ | with_reducible exact bb_c.alloc bb_c.size _)).2.2.1), (cell_far (show (w.heap.size + 1) ≠ _ from fun e => absurd pz (by omega)) _ _).trans ((HS.out _ (by first | with_reducible exact Below.refl _ _ | with_reducible exact (Below.refl _ _).drew | with_reducible exact bb_a | with_reducible exact bb_b | with_reducible exact bb_c | with_reducible exact (Below.refl _ _).alloc (Nat.le_refl _) _ | with_reducible exact ((Below.refl _ _).alloc (Nat.le_refl _) _).drew | with_reducible exact bb_a.alloc bb_a.size _ | with_reducible exact bb_b.alloc bb_b.size _ | with_reducible exact bb_c.alloc bb_c.size _)).2.2.2.1), (cell_far (show (w.heap.size + 1) ≠ _ from fun e => absurd pz (by omega)) _ _).trans ((HS.out _ (by first | with_reducible exact Below.refl _ _ | with_reducible exact (Below.refl _ _).drew | with_reducible exact bb_a | with_reducible exact bb_b | with_reducible exact bb_c | with_reducible exact (Below.refl _ _).alloc (Nat.le_refl _) _ | with_reducible exact ((Below.refl _ _).alloc (Nat.le_refl _) _).drew | with_reducible exact bb_a.alloc bb_a.size _ | with_reducible exact bb_b.alloc bb_b.size _ | with_reducible exact bb_c.alloc bb_c.size _)).2.2.2.2.1), (cell_far (show (w.heap.size + 1) ≠ _ from fun e => absurd pz (by omega)) _ _).trans ((HS.out _ (by first | with_reducible exact Below.refl _ _ | with_reducible exact (Below.refl _ _).drew | with_reducible exact bb_a | with_reducible exact bb_b | with_reducible exact bb_c | with_reducible exact (Below.refl _ _).alloc (Nat.le_refl _) _ | with_reducible exact ((Below.refl _ _).alloc (Nat.le_refl _) _).drew | with_reducible exact bb_a.alloc bb_a.size _ | with_reducible exact bb_b.alloc bb_b.size _ | with_reducible exact bb_c.alloc bb_c.size _)).2.2.2.2.2)⟩)
   (first
    | (go_at_call 175; refine (K_c.out _ (by first | with_reducible exact Below.refl _ _ | with_reducible exact (Below.refl _ _).drew | with_reducible exact bb_a | with_reducible exact bb_b | with_reducible exact bb_c | with_reducible exact (Below.refl _ _).alloc (Nat.le_refl _) _ | with_reducible exact ((Below.refl _ _).alloc (Nat.le_refl _) _).drew | with_reducible exact bb_a.alloc bb_a.size _ | with_reducible exact bb_b.alloc bb_b.size _ | with_reducible exact bb_c.alloc bb_c.size _) _ _ (by first | with_reducible exact o_a.row | with_reducible exact (o_a.alloc _).row) (by first | with_reducible exact o_b.row | with_reducible exact (o_b.alloc _).row)).mono ?_; rintro e w_c ⟨v_c, rfl, o_c, lo_c, bw_c, bb_c⟩; obtain ⟨a_c, c_c, rfl⟩ := o_c.slice; (try first | with_reducible (have o_a := o_a.below bw_c) | with_reducible (have o_a := (o_a.alloc _).below bw_c)); (try first | with_reducible (have o_b := o_b.below bw_c) | with_reducible (have o_b := (o_b.alloc _).below bw_c)); (try with_reducible (have dz := Bx.below dz bw_c; have pz := pz)); (try first | with_reducible (have dz := (show Bx w_c wc2.heap.size 32 (false) (.slice none 0 0) from Bx.below (show Bx (World.drew (wc2.alloc (.cells #[.bool false, .slice none 0 0] 32))) wc2.heap.size 32 (false) (.slice none 0 0) from Bx.drew (Bx.new _ _ _ _)) bw_c); have pz : wc2.heap.size ≤ wc2.heap.size := Nat.le_refl _) | with_reducible (have dz := (show Bx w_c w_a.heap.size 32 (false) (.slice none 0 0) from Bx.below (Bx.new _ _ _ _) bw_c); have pz : wc2.heap.size ≤ w_a.heap.size := bb_a.size) | with_reducible (have dz := (show Bx w_c w_b.heap.size 32 (false) (.slice none 0 0) from Bx.below (Bx.new _ _ _ _) bw_c); have pz : wc2.heap.size ≤ w_b.heap.size := bb_b.size)); (try (have y0 := dz.c0; have y1 := dz.c1; have x0 := dz.f0; have x1 := dz.f1)))
    | (go_at_call 144; with_reducible refine (K_b.out _ (by first | with_reducible exact Below.refl _ _ | with_reducible exact (Below.refl _ _).drew | with_reducible exact bb_a | with_reducible exact bb_b | with_reducible exact bb_c | with_reducible exact (Below.refl _ _).alloc (Nat.le_refl _) _ | with_reducible exact ((Below.refl _ _).alloc (Nat.le_refl _) _).drew | with_reducible exact bb_a.alloc bb_a.size _ | with_reducible exact bb_b.alloc bb_b.size _ | with_reducible exact bb_c.alloc bb_c.size _)).mono ?_; rintro e w_b ⟨v_b, rfl, o_b, lo_b, bw_b, bb_b⟩; obtain ⟨a_b, c_b, rfl⟩ := o_b.slice; (try first | with_reducible (have o_a := o_a.below bw_b) | with_reducible (have o_a := (o_a.alloc _).below bw_b)); (try first | with_reducible (have o_c := o_c.below bw_b) | with_reducible (have o_c := (o_c.alloc _).below bw_b)); (try with_reducible (have dz := Bx.below dz bw_b; have pz := pz)); (try first | with_reducible (have dz := (show Bx w_b wc2.heap.size 32 (false) (.slice none 0 0) from Bx.below (show Bx (World.drew (wc2.alloc (.cells #[.bool false, .slice none 0 0] 32))) wc2.heap.size 32 (false) (.slice none 0 0) from Bx.drew (Bx.new _ _ _ _)) bw_b); have pz : wc2.heap.size ≤ wc2.heap.size := Nat.le_refl _) | with_reducible (have dz := (show Bx w_b w_a.heap.size 32 (false) (.slice none 0 0) from Bx.below (Bx.new _ _ _ _) bw_b); have pz : wc2.heap.size ≤ w_a.heap.size := bb_a.size) | with_reducible (have dz := (show Bx w_b w_c.heap.size 32 (false) (.slice none 0 0) from Bx.below (Bx.new _ _ _ _) bw_b); have pz : wc2.heap.size ≤ w_c.heap.size := bb_c.size)); (try (have y0 := dz.c0; have y1 := dz.c1; have x0 := dz.f0; have x1 := dz.f1)))
    | (go_at_call 144; with_reducible refine (K_a.out _ (by first | with_reducible exact Below.refl _ _ | with_reducible exact (Below.refl _ _).drew | with_reducible exact bb_a | with_reducible exact bb_b | with_reducible exact bb_c | with_reducible exact (Below.refl _ _).alloc (Nat.le_refl _) _ | with_reducible exact ((Below.refl _ _).alloc (Nat.le_refl _) _).drew | with_reducible exact bb_a.alloc bb_a.size _ | with_reducible exact bb_b.alloc bb_b.size _ | with_reducible exact bb_c.alloc bb_c.size _)).mono ?_; rintro e w_a ⟨v_a, rfl, o_a, lo_a, bw_a, bb_a⟩; obtain ⟨a_a, c_a, rfl⟩ := o_a.slice; (try first | with_reducible (have o_b := o_b.below bw_a) | with_reducible (have o_b := (o_b.alloc _).below bw_a)); (try first | with_reducible (have o_c := o_c.below bw_a) | with_reducible (have o_c := (o_c.alloc _).below bw_a)); (try with_reducible (have dz := Bx.below dz bw_a; have pz := pz)); (try first | with_reducible (have dz := (show Bx w_a wc2.heap.size 32 (false) (.slice none 0 0) from Bx.below (show Bx (World.drew (wc2.alloc (.cells #[.bool false, .slice none 0 0] 32))) wc2.heap.size 32 (false) (.slice none 0 0) from Bx.drew (Bx.new _ _ _ _)) bw_a); have pz : wc2.heap.size ≤ wc2.heap.size := Nat.le_refl _) | with_reducible (have dz := (show Bx w_a w_b.heap.size 32 (false) (.slice none 0 0) from Bx.below (Bx.new _ _ _ _) bw_a); have pz : wc2.heap.size ≤ w_b.heap.size := bb_b.size) | with_reducible (have dz := (show Bx w_a w_c.heap.size 32 (false) (.slice none 0 0) from Bx.below (Bx.new _ _ _ _) bw_a); have pz : wc2.heap.size ≤ w_c.heap.size := bb_c.size)); (try (have y0 := dz.c0; have y1 := dz.c1; have x0 := dz.f0; have x1 := dz.f1))))
  all_goals go_wp2_with fail
  all_goals go_meet
  all_goals first
   | exact ⟨_, _, _, _, rfl, Lib.hid dz.set, Lib.hid (own_bx2 o_c dz (by decide) _ _), Lib.hid pz, Lib.hid ((bb_c.setCell pz _).setCell pz _)⟩
   | exact ⟨_, _, _, _, rfl, Lib.hid (Bx.new _ _ _ _), Lib.hid (o_c.alloc _), Lib.hid bb_c.size, Lib.hid (bb_c.alloc bb_c.size _)⟩
 clear c0_x c1_x c2_x
 clear c0_y c1_y c2_y
 clear HS lt_x lt_y
 obtain ⟨p_n, a_n, n_n, c_n, rfl, hD, hO, hp, hB⟩ := hcut
 obtain ⟨wc3, hwc⟩ : ∃ x, x = wc := ⟨_, rfl⟩
 simp only [← hwc] at *
 clear hwc
 have bw9 := hB.out
 replace Q_g := Lib.hid (rowOf_below Q_g.out bw9)
 replace Q_l := Lib.hid (rowOf_below Q_l.out bw9)
 replace Q_s := Lib.hid (rowOf_below Q_s.out bw9)
 have M_n := hD
 have O_n := Lib.hid (hO.out.base BB.out.size)
 have P_n := Lib.hid (Nat.le_trans BB.out.size hp.out)
 clear hD hO hp K_a K_b K_c
 replace B := Lib.hid (B.out.trans (bw9.mono B.out.size))
 replace BB := Lib.hid (BB.out.trans (bw9.mono BB.out.size))
 clear hB bw9
 have O_on := O_n
 clear O_n
 have c0_n := M_n.out.c0
 have c1_n := M_n.out.c1
 go_wp2_with fail
 clear c0_n c1_n
 refine (impl_common _ _ N g _ O_on.out.row Q_g.out (by have := B_n.out; omega) (by have := B_g.out; omega)).mono ?_
 rw [HK.out]
 rintro e w4 ⟨v_k, rfl, o_k, bw4⟩
 obtain ⟨a_k, c_k, rfl⟩ := o_k.slice
 replace Q_g := Lib.hid (rowOf_below Q_g.out bw4)
 replace Q_l := Lib.hid (rowOf_below Q_l.out bw4)
 replace Q_s := Lib.hid (rowOf_below Q_s.out bw4)
 replace O_on := Lib.hid (O_on.out.below bw4)
 replace M_n := Lib.hid (M_n.out.below bw4)
 have Q_k := Lib.hid o_k.row
 clear o_k
 replace B := Lib.hid (B.out.trans (bw4.mono B.out.size))
 replace BB := Lib.hid (BB.out.trans (bw4.mono BB.out.size))
 clear bw4
 have c0_n := M_n.out.c0
 have c1_n := M_n.out.c1
 go_wp2_with fail
 clear c0_n c1_n
 refine (impl_overOwn _ _ N k W0.heap.size _ O_on.out BB.out.size Q_k.out GK.out (by have := B_n.out; omega) (by have := B_k.out; omega)).mono ?_
 rintro e w5 ⟨v_m, rfl, o_m, bw5⟩
 obtain ⟨a_m, c_m, rfl⟩ := o_m.slice
 replace Q_g := Lib.hid (rowOf_below Q_g.out bw5)
 replace Q_l := Lib.hid (rowOf_below Q_l.out bw5)
 replace Q_s := Lib.hid (rowOf_below Q_s.out bw5)
 replace O_on := Lib.hid (O_on.out.below bw5)
 replace M_n := Lib.hid (M_n.out.below bw5)
 replace Q_k := Lib.hid (rowOf_below Q_k.out bw5)
 have O_m := Lib.hid o_m
 clear o_m
 replace B := Lib.hid (B.out.trans (bw5.mono B.out.size))
 replace BB := Lib.hid (BB.out.trans (bw5.mono BB.out.size))
 clear bw5
 have c0_n := M_n.out.c0
 have c1_n := M_n.out.c1
 have f0_n := M_n.out.f0
 have f1_n := M_n.out.f1
 go_wp2_with fail
 clear c0_n c1_n
 clear f0_n f1_n
 have L_m := limI_length (N / k)
 obtain ⟨W5, hW5⟩ : ∃ x, x = w5.setCell ⟨p_n, 1, none⟩ (.slice a_m (limI (N / k)).length c_m) := ⟨_, rfl⟩
 have D5 := M_n.out
 replace Q_g := Lib.hid (show RowOf iV W5 _ _ by rw [hW5]; exact rowOf_bx Q_g.out D5)
 replace Q_l := Lib.hid (show RowOf iV W5 _ _ by rw [hW5]; exact rowOf_bx Q_l.out D5)
 replace Q_s := Lib.hid (show RowOf iV W5 _ _ by rw [hW5]; exact rowOf_bx Q_s.out D5)
 replace O_on := Lib.hid (show OwnI W5 W0.heap.size _ _ by rw [hW5]; exact own_bx1 O_on.out D5 (by decide) 1 _)
 replace Q_k := Lib.hid (show RowOf iV W5 _ _ by rw [hW5]; exact rowOf_bx Q_k.out D5)
 replace O_m := Lib.hid (show OwnI W5 W0.heap.size _ _ by rw [hW5]; exact own_bx1 O_m.out D5 (by decide) 1 _)
 replace M_n := Lib.hid (show Bx W5 p_n 32 (s && decide (0 < N)) (.slice a_m (limI (N / k)).length c_m) by rw [hW5]; exact D5.set1)
 replace B := Lib.hid (show Below w.heap.size w W5 by rw [hW5]; exact B.out.setCell (by have := P_n.out; have := SZ.out; show w.heap.size ≤ p_n; omega) _)
 replace BB := Lib.hid (show Below W0.heap.size W0 W5 by rw [hW5]; exact BB.out.setCell P_n.out _)
 rw [← hW5]
 clear hW5 D5 L_m
 have K_f := Lib.hid (fun (W : World) (hW : Below W5.heap.size W5 W) => pre_row (impl_over _ _ e k W (rowOf_below (rowOf_below RA_e.out B.out) hW) (rowOf_below Q_k.out hW) GK.out (by have := B_e.out; omega) (by have := B_k.out; omega)) hW)
 have K_t := Lib.hid (fun (W : World) (hW : Below W5.heap.size W5 W) (vv : Value) (hr : RowOf iV W vv (limI (e / k))) => pre_own (R := fun v => v) (impl_times _ vv l (e / k) W (rowOf_below Q_l.out hW) hr (by have := B_l.out; have := B_d.out; omega) (by have := B_ek.out; have := B_e.out; omega)) hW)
 have K_q := Lib.hid (fun (W : World) (hW : Below W5.heap.size W5 W) (b : Bool) (a : Option Addr) (n c : Nat) (e : Option Addr) (m f : Nat) => pre_lim (impl_limitedR2 b a n c e m f W) hW)
 have P9 := P_n.out
 have SZ9 := SZ.out
 have c0_x := (D_x.out.below BB.out).c0
 have c1_x := (D_x.out.below BB.out).c1
 have c2_x := (D_x.out.below BB.out).c2
 have c0_y := (D_y.out.below BB.out).c0
 have c1_y := (D_y.out.below BB.out).c1
 have c2_y := (D_y.out.below BB.out).c2
 have c0_n := M_n.out.c0
 have c1_n := M_n.out.c1
 go_wp2_with fail
 have HS := Lib.hid (show ∀ W : World, Below W5.heap.size W5 W → (W.cell? ⟨w.heap.size, 0, none⟩ = some (.bool b0) ∧ W.cell? ⟨w.heap.size, 1, none⟩ = some (.slice a0 nx c0) ∧ W.cell? ⟨w.heap.size, 2, none⟩ = some (.slice e0 nd f0) ∧ W.cell? ⟨(w.heap.size + 1), 0, none⟩ = some (.bool b1) ∧ W.cell? ⟨(w.heap.size + 1), 1, none⟩ = some (.slice a1 ny c1) ∧ W.cell? ⟨(w.heap.size + 1), 2, none⟩ = some (.slice e1 ne f1) ∧ W.cell? ⟨p_n, 0, none⟩ = some (.bool (s && decide (0 < N))) ∧ W.cell? ⟨p_n, 1, none⟩ = some (.slice a_m (limI (N / k)).length c_m)) from fun W hW => ⟨(hW.cell (p := ⟨w.heap.size, 0, none⟩) (D_x.out.below BB.out).lt).trans c0_x, (hW.cell (p := ⟨w.heap.size, 1, none⟩) (D_x.out.below BB.out).lt).trans c1_x, (hW.cell (p := ⟨w.heap.size, 2, none⟩) (D_x.out.below BB.out).lt).trans c2_x, (hW.cell (p := ⟨(w.heap.size + 1), 0, none⟩) (D_y.out.below BB.out).lt).trans c0_y, (hW.cell (p := ⟨(w.heap.size + 1), 1, none⟩) (D_y.out.below BB.out).lt).trans c1_y, (hW.cell (p := ⟨(w.heap.size + 1), 2, none⟩) (D_y.out.below BB.out).lt).trans c2_y, (hW.cell (p := ⟨p_n, 0, none⟩) M_n.out.lt).trans c0_n, (hW.cell (p := ⟨p_n, 1, none⟩) M_n.out.lt).trans c1_n⟩)
 have lt_x := (D_x.out.below BB.out).lt
 have lt_y := (D_y.out.below BB.out).lt
 have lt_n := M_n.out.lt
 have c0_r := (D_r.out.below BB.out).c0
 have c1_r := (D_r.out.below BB.out).c1
 have c2_r := (D_r.out.below BB.out).c2
 have f0_r := (D_r.out.below BB.out).f 0
 have f1_r := (D_r.out.below BB.out).f 1
 have f2_r := (D_r.out.below BB.out).f 2
 have HF := Lib.hid (show ∀ W : World, Below W5.heap.size W5 W → (W.cell? ⟨(w.heap.size + 1 + 1), 0, none⟩ = some (.bool false) ∧ W.cell? ⟨(w.heap.size + 1 + 1), 1, none⟩ = some (.slice none 0 0) ∧ W.cell? ⟨(w.heap.size + 1 + 1), 2, none⟩ = some (.slice none 0 0) ∧ W.frozen? ⟨(w.heap.size + 1 + 1), 0, none⟩ = false ∧ W.frozen? ⟨(w.heap.size + 1 + 1), 1, none⟩ = false ∧ W.frozen? ⟨(w.heap.size + 1 + 1), 2, none⟩ = false) from fun W hW => ⟨(hW.cell (p := ⟨(w.heap.size + 1 + 1), 0, none⟩) (D_r.out.below BB.out).lt).trans c0_r, (hW.cell (p := ⟨(w.heap.size + 1 + 1), 1, none⟩) (D_r.out.below BB.out).lt).trans c1_r, (hW.cell (p := ⟨(w.heap.size + 1 + 1), 2, none⟩) (D_r.out.below BB.out).lt).trans c2_r, (hW.frozen (p := ⟨(w.heap.size + 1 + 1), 0, none⟩) (D_r.out.below BB.out).lt).trans f0_r, (hW.frozen (p := ⟨(w.heap.size + 1 + 1), 1, none⟩) (D_r.out.below BB.out).lt).trans f1_r, (hW.frozen (p := ⟨(w.heap.size + 1 + 1), 2, none⟩) (D_r.out.below BB.out).lt).trans f2_r⟩)
 go_region_held3 (fun w' => w'.cell? ⟨w.heap.size, 0, none⟩ = some (.bool b0) ∧ w'.cell? ⟨w.heap.size, 1, none⟩ = some (.slice a0 nx c0) ∧ w'.cell? ⟨w.heap.size, 2, none⟩ = some (.slice e0 nd f0) ∧ w'.cell? ⟨(w.heap.size + 1), 0, none⟩ = some (.bool b1) ∧ w'.cell? ⟨(w.heap.size + 1), 1, none⟩ = some (.slice a1 ny c1) ∧ w'.cell? ⟨(w.heap.size + 1), 2, none⟩ = some (.slice e1 ne f1) ∧ w'.cell? ⟨p_n, 0, none⟩ = some (.bool (s && decide (0 < N))) ∧ w'.cell? ⟨p_n, 1, none⟩ = some (.slice a_m (limI (N / k)).length c_m)) (first | exact HS.out _ (by first | with_reducible exact Below.refl _ _ | with_reducible exact (Below.refl _ _).drew | with_reducible exact bb_f | with_reducible exact bb_t | with_reducible exact bb_q) | exact ⟨(cell_far3 (show w.heap.size ≠ (w.heap.size + 1 + 1) from by omega) _ _ _).trans ((HS.out _ (by first | with_reducible exact Below.refl _ _ | with_reducible exact (Below.refl _ _).drew | with_reducible exact bb_f | with_reducible exact bb_t | with_reducible exact bb_q)).1), (cell_far3 (show w.heap.size ≠ (w.heap.size + 1 + 1) from by omega) _ _ _).trans ((HS.out _ (by first | with_reducible exact Below.refl _ _ | with_reducible exact (Below.refl _ _).drew | with_reducible exact bb_f | with_reducible exact bb_t | with_reducible exact bb_q)).2.1), (cell_far3 (show w.heap.size ≠ (w.heap.size + 1 + 1) from by omega) _ _ _).trans ((HS.out _ (by first | with_reducible exact Below.refl _ _ | with_reducible exact (Below.refl _ _).drew | with_reducible exact bb_f | with_reducible exact bb_t | with_reducible exact bb_q)).2.2.1), (cell_far3 (show (w.heap.size + 1) ≠ (w.heap.size + 1 + 1) from by omega) _ _ _).trans ((HS.out _ (by first | with_reducible exact Below.refl _ _ | with_reducible exact (Below.refl _ _).drew | with_reducible exact bb_f | with_reducible exact bb_t | with_reducible exact bb_q)).2.2.2.1), (cell_far3 (show (w.heap.size + 1) ≠ (w.heap.size + 1 + 1) from by omega) _ _ _).trans ((HS.out _ (by first | with_reducible exact Below.refl _ _ | with_reducible exact (Below.refl _ _).drew | with_reducible exact bb_f | with_reducible exact bb_t | with_reducible exact bb_q)).2.2.2.2.1), (cell_far3 (show (w.heap.size + 1) ≠ (w.heap.size + 1 + 1) from by omega) _ _ _).trans ((HS.out _ (by first | with_reducible exact Below.refl _ _ | with_reducible exact (Below.refl _ _).drew | with_reducible exact bb_f | with_reducible exact bb_t | with_reducible exact bb_q)).2.2.2.2.2.1), (cell_far3 (show p_n ≠ (w.heap.size + 1 + 1) from by omega) _ _ _).trans ((HS.out _ (by first | with_reducible exact Below.refl _ _ | with_reducible exact (Below.refl _ _).drew | with_reducible exact bb_f | with_reducible exact bb_t | with_reducible exact bb_q)).2.2.2.2.2.2.1), (cell_far3 (show p_n ≠ (w.heap.size + 1 + 1) from by omega) _ _ _).trans ((HS.out _ (by first | with_reducible exact Below.refl _ _ | with_reducible exact (Below.refl _ _).drew | with_reducible exact bb_f | with_reducible exact bb_t | with_reducible exact bb_q)).2.2.2.2.2.2.2)⟩)
  (first
   | (go_at_call 145; refine (K_q.out _ (by first | with_reducible exact Below.refl _ _ | with_reducible exact (Below.refl _ _).drew | with_reducible exact bb_f | with_reducible exact bb_t | with_reducible exact bb_q) _ _ _ _ _ _ _).mono ?_; rintro e w_q ⟨b9, a9, n9, c9, e9, m9, f9, rfl, hL, bw_q, bb_q⟩; (try first | with_reducible (have r_f := rowOf_below r_f bw_q)); (try first | with_reducible (have o_t := o_t.below bw_q)); obtain ⟨s0, s1, s2, t0, t1, t2⟩ := HF.out _ bb_q)
   | (go_at_call 144; refine (K_t.out _ (by first | with_reducible exact Below.refl _ _ | with_reducible exact (Below.refl _ _).drew | with_reducible exact bb_f | with_reducible exact bb_t | with_reducible exact bb_q) _ (by first | with_reducible exact r_f)).mono ?_; rintro e w_t ⟨v_t, rfl, o_t, lo_t, bw_t, bb_t⟩; obtain ⟨a_t, c_t, rfl⟩ := o_t.slice; (try first | with_reducible (have r_f := rowOf_below r_f bw_t)); obtain ⟨s0, s1, s2, t0, t1, t2⟩ := HF.out _ bb_t)
   | (go_at_call 167; refine (K_f.out _ (by first | with_reducible exact Below.refl _ _ | with_reducible exact (Below.refl _ _).drew | with_reducible exact bb_f | with_reducible exact bb_t | with_reducible exact bb_q)).mono ?_; rintro e w_f ⟨v_f, rfl, r_f, bw_f, bb_f⟩; obtain ⟨a_f, c_f, rfl⟩ := rowOf_form r_f; (try first | with_reducible (have o_t := o_t.below bw_f)); obtain ⟨s0, s1, s2, t0, t1, t2⟩ := HF.out _ bb_f))
 all_goals (
  have D9 := D_r.out.below (BB.out.trans (bb_q.mono BB.out.size))
  obtain ⟨hb9, ho9⟩ := lim_ownL (s := s) hL PD.out PS.out (⟨O_m.out.below bb_q, o_t.base BB.out.size, fun g g' x1 x2 => by have := (O_m.out.lt g x1).2; have := lo_t g' x2; have := bb_f.size; omega⟩)
  subst hb9
  obtain ⟨e1, e2⟩ := rat_end (b' := mkB (s) (N / k) (l * (e / k))) (B.out.trans (bb_q.mono B.out.size)) D9 ho9 (by decide) (by have := SZ.out; omega) (by omega) (.slice a9 n9 c9) (.slice e9 m9 f9)
  have D8 := Rx.set3 (b' := mkB (s) (N / k) (l * (e / k))) (v' := .slice a9 n9 c9) (d' := .slice e9 m9 f9) D9
  have hc0 := D8.c0
  have hc1 := D8.c1
  have hc2 := D8.c2
  go_wp2
  exact bodyPost_ret (v := .agg #[.bool (mkB (s) (N / k) (l * (e / k))), .slice a9 n9 c9, .slice e9 m9 f9]) (by simp [results, Tryz.results149, go_sem, hc0, hc1, hc2]) rfl ⟨_, _, rfl, e1, e2⟩)
set_option maxHeartbeats 1000000 in
theorem impl_opposite (b0 : Bool) (v0 : Value) (x : Nat) (d0 : Value) (d : Nat) (w : World) (h0 : RowR w v0 (limI x) d0 (limI d)) (hx : x < pw 24) (hd : d < pw 24) (n0 : b0 = true → 0 < x) :
  Calls Tryz.prog 76 #[.agg #[.bool b0, v0, d0]] w fun r w' => ∃ v dd, r = .returned (.agg #[.bool (!b0 && decide (0 < x)), v, dd]) ∧ OwnR w' w.heap.size v (limI x) dd (limI d) ∧ Below w.heap.size w w' := by
 have GB := big_lim (Nat.lt_trans hx (pw_lt (by omega : 24 < 60))) n0
 have GN := bigNeg_yes GB
 rw [capL_yes (Nat.lt_trans hx (pw_lt (by omega : 24 < 60))), sgB_lim] at GN
 have GN := Lib.hid GN
 have B_x := Lib.hid ((nlen_le_iff _ _).2 hx)
 have B_d := Lib.hid ((nlen_le_iff _ _).2 hd)
 clear hx hd n0 GB
 have RA_x := Lib.hid h0.1
 have RA_d := Lib.hid h0.2
 obtain ⟨⟨a0, c0, rfl, z1, z2, z3⟩, ⟨e0, f0, rfl, z4, z5, z6⟩⟩ := h0
 clear z1 z2 z3 z4 z5 z6
 have L_x := Lib.hid (limI_length x)
 rw [limI_length] at RA_x
 try rw [limI_length x]
 obtain ⟨nx, hnx⟩ : ∃ n, nlen x = n := ⟨_, rfl⟩
 rw [hnx] at RA_x L_x
 try rw [hnx]
 have N_x := Lib.hid hnx
 clear hnx
 have L_d := Lib.hid (limI_length d)
 rw [limI_length] at RA_d
 try rw [limI_length d]
 obtain ⟨nd, hnd⟩ : ∃ n, nlen d = n := ⟨_, rfl⟩
 rw [hnd] at RA_d L_d
 try rw [hnd]
 have N_d := Lib.hid hnd
 clear hnd
 go_enter Tryz.func76, Tryz.ntmps76
 go_wp2_with fail
 obtain ⟨W0, hW0⟩ : ∃ x, x = ((w.alloc (.cells #[.bool b0, .slice a0 nx c0, .slice e0 nd f0] 34)).alloc (.cells #[.bool false, .slice none 0 0, .slice none 0 0] 34)) := ⟨_, rfl⟩
 have B := Lib.hid (show Below w.heap.size w W0 by rw [hW0]; exact (((Below.refl _ _).alloc (Nat.le_refl _) _).alloc (by simp) _))
 have D_x := Lib.hid (rx_at (show Rx W0 _ 34 (b0) (.slice a0 nx c0) (.slice e0 nd f0) by rw [hW0]; exact (Rx.new _ _ _ _ _).alloc _) (show w.heap.size = _ by simp))
 have D_r := Lib.hid (rx_at (show Rx W0 _ 34 (false) (.slice none 0 0) (.slice none 0 0) by rw [hW0]; exact Rx.new _ _ _ _ _) (show (w.heap.size + 1) = _ by simp))
 have SZ := Lib.hid (show W0.heap.size = w.heap.size + 1 + 1 by rw [hW0]; simp)
 rw [← hW0]
 clear hW0
 have BB := Lib.hid (Below.refl W0.heap.size W0)
 have K_a := Lib.hid (fun (W : World) (hW : Below W0.heap.size W0 W) => pre_own (R := fun v => .agg #[.bool (!b0 && decide (0 < x)), v]) ((by have h := impl_bigNeg b0 _ (limI x) W (rowOf_below (rowOf_below RA_x.out B.out) hW); rw [GN.out.1, GN.out.2] at h; exact h)) hW)
 have K_b := Lib.hid (fun (W : World) (hW : Below W0.heap.size W0 W) => pre_own (R := fun v => v) (impl_cloneI _ d W (rowOf_below (rowOf_below RA_d.out B.out) hW) (by have := B_d.out; omega)) hW)
 have c0_x := (D_x.out.below BB.out).c0
 have c1_x := (D_x.out.below BB.out).c1
 have c2_x := (D_x.out.below BB.out).c2
 have HS := Lib.hid (show ∀ W : World, Below W0.heap.size W0 W → (W.cell? ⟨w.heap.size, 0, none⟩ = some (.bool b0) ∧ W.cell? ⟨w.heap.size, 1, none⟩ = some (.slice a0 nx c0) ∧ W.cell? ⟨w.heap.size, 2, none⟩ = some (.slice e0 nd f0)) from fun W hW => ⟨(hW.cell (p := ⟨w.heap.size, 0, none⟩) (D_x.out.below BB.out).lt).trans c0_x, (hW.cell (p := ⟨w.heap.size, 1, none⟩) (D_x.out.below BB.out).lt).trans c1_x, (hW.cell (p := ⟨w.heap.size, 2, none⟩) (D_x.out.below BB.out).lt).trans c2_x⟩)
 have lt_x := (D_x.out.below BB.out).lt
 have c0_r := (D_r.out.below BB.out).c0
 have c1_r := (D_r.out.below BB.out).c1
 have c2_r := (D_r.out.below BB.out).c2
 have f0_r := (D_r.out.below BB.out).f 0
 have f1_r := (D_r.out.below BB.out).f 1
 have f2_r := (D_r.out.below BB.out).f 2
 have HF := Lib.hid (show ∀ W : World, Below W0.heap.size W0 W → (W.cell? ⟨(w.heap.size + 1), 0, none⟩ = some (.bool false) ∧ W.cell? ⟨(w.heap.size + 1), 1, none⟩ = some (.slice none 0 0) ∧ W.cell? ⟨(w.heap.size + 1), 2, none⟩ = some (.slice none 0 0) ∧ W.frozen? ⟨(w.heap.size + 1), 0, none⟩ = false ∧ W.frozen? ⟨(w.heap.size + 1), 1, none⟩ = false ∧ W.frozen? ⟨(w.heap.size + 1), 2, none⟩ = false) from fun W hW => ⟨(hW.cell (p := ⟨(w.heap.size + 1), 0, none⟩) (D_r.out.below BB.out).lt).trans c0_r, (hW.cell (p := ⟨(w.heap.size + 1), 1, none⟩) (D_r.out.below BB.out).lt).trans c1_r, (hW.cell (p := ⟨(w.heap.size + 1), 2, none⟩) (D_r.out.below BB.out).lt).trans c2_r, (hW.frozen (p := ⟨(w.heap.size + 1), 0, none⟩) (D_r.out.below BB.out).lt).trans f0_r, (hW.frozen (p := ⟨(w.heap.size + 1), 1, none⟩) (D_r.out.below BB.out).lt).trans f1_r, (hW.frozen (p := ⟨(w.heap.size + 1), 2, none⟩) (D_r.out.below BB.out).lt).trans f2_r⟩)
 go_region_held3 (fun w' => w'.cell? ⟨w.heap.size, 0, none⟩ = some (.bool b0) ∧ w'.cell? ⟨w.heap.size, 1, none⟩ = some (.slice a0 nx c0) ∧ w'.cell? ⟨w.heap.size, 2, none⟩ = some (.slice e0 nd f0)) (first | exact HS.out _ (by first | with_reducible exact Below.refl _ _ | with_reducible exact (Below.refl _ _).drew | with_reducible exact bb_a | with_reducible exact bb_b) | exact ⟨(cell_far3 (show w.heap.size ≠ (w.heap.size + 1) from by omega) _ _ _).trans ((HS.out _ (by first | with_reducible exact Below.refl _ _ | with_reducible exact (Below.refl _ _).drew | with_reducible exact bb_a | with_reducible exact bb_b)).1), (cell_far3 (show w.heap.size ≠ (w.heap.size + 1) from by omega) _ _ _).trans ((HS.out _ (by first | with_reducible exact Below.refl _ _ | with_reducible exact (Below.refl _ _).drew | with_reducible exact bb_a | with_reducible exact bb_b)).2.1), (cell_far3 (show w.heap.size ≠ (w.heap.size + 1) from by omega) _ _ _).trans ((HS.out _ (by first | with_reducible exact Below.refl _ _ | with_reducible exact (Below.refl _ _).drew | with_reducible exact bb_a | with_reducible exact bb_b)).2.2)⟩)
  (first
   | (go_at_call 118; refine (K_b.out _ (by first | with_reducible exact Below.refl _ _ | with_reducible exact (Below.refl _ _).drew | with_reducible exact bb_a | with_reducible exact bb_b)).mono ?_; rintro e w_b ⟨v_b, rfl, o_b, lo_b, bw_b, bb_b⟩; obtain ⟨a_b, c_b, rfl⟩ := o_b.slice; (try with_reducible (have ap_a_b := apart_lo o_a lo_b)); (try first | with_reducible (have o_a := o_a.below bw_b)); obtain ⟨s0, s1, s2, t0, t1, t2⟩ := HF.out _ bb_b)
   | (go_at_call 117; refine (K_a.out _ (by first | with_reducible exact Below.refl _ _ | with_reducible exact (Below.refl _ _).drew | with_reducible exact bb_a | with_reducible exact bb_b)).mono ?_; rintro e w_a ⟨v_a, rfl, o_a, lo_a, bw_a, bb_a⟩; obtain ⟨a_a, c_a, rfl⟩ := o_a.slice; (try with_reducible (have ap_b_a := apart_lo o_b lo_a)); (try first | with_reducible (have o_b := o_b.below bw_a)); obtain ⟨s0, s1, s2, t0, t1, t2⟩ := HF.out _ bb_a))
 all_goals first
  | (have oo : OwnR w_a W0.heap.size (.slice a_a (limI x).length c_a) (limI x) (.slice a_b (limI d).length c_b) (limI d) := ⟨o_a, o_b, by first | exact ap_a_b | exact ap_b_a.symm⟩; have D9 := D_r.out.below bb_a; obtain ⟨e1, e2⟩ := rat_end (b' := (!b0 && decide (0 < x))) (B.out.trans (bb_a.mono B.out.size)) D9 oo (by decide) (by have := SZ.out; omega) (by omega) (.slice a_a (limI x).length c_a) (.slice a_b (limI d).length c_b); have D8 := Rx.set3 (b' := (!b0 && decide (0 < x))) (v' := .slice a_a (limI x).length c_a) (d' := .slice a_b (limI d).length c_b) D9; have hc0 := D8.c0; have hc1 := D8.c1; have hc2 := D8.c2; go_wp2; exact bodyPost_ret (v := .agg #[.bool (!b0 && decide (0 < x)), .slice a_a (limI x).length c_a, .slice a_b (limI d).length c_b]) (by simp [results, Tryz.results76, go_sem, hc0, hc1, hc2]) rfl ⟨_, _, rfl, e1, e2⟩)
  | (have oo : OwnR w_b W0.heap.size (.slice a_a (limI x).length c_a) (limI x) (.slice a_b (limI d).length c_b) (limI d) := ⟨o_a, o_b, by first | exact ap_a_b | exact ap_b_a.symm⟩; have D9 := D_r.out.below bb_b; obtain ⟨e1, e2⟩ := rat_end (b' := (!b0 && decide (0 < x))) (B.out.trans (bb_b.mono B.out.size)) D9 oo (by decide) (by have := SZ.out; omega) (by omega) (.slice a_a (limI x).length c_a) (.slice a_b (limI d).length c_b); have D8 := Rx.set3 (b' := (!b0 && decide (0 < x))) (v' := .slice a_a (limI x).length c_a) (d' := .slice a_b (limI d).length c_b) D9; have hc0 := D8.c0; have hc1 := D8.c1; have hc2 := D8.c2; go_wp2; exact bodyPost_ret (v := .agg #[.bool (!b0 && decide (0 < x)), .slice a_a (limI x).length c_a, .slice a_b (limI d).length c_b]) (by simp [results, Tryz.results76, go_sem, hc0, hc1, hc2]) rfl ⟨_, _, rfl, e1, e2⟩)
set_option maxHeartbeats 1000000 in
theorem impl_cloneR (b0 : Bool) (v0 : Value) (x : Nat) (d0 : Value) (d : Nat) (w : World) (h0 : RowR w v0 (limI x) d0 (limI d)) (hx : x < pw 24) (hd : d < pw 24) :
  Calls Tryz.prog 102 #[.agg #[.bool b0, v0, d0]] w fun r w' => ∃ v dd, r = .returned (.agg #[.bool b0, v, dd]) ∧ OwnR w' w.heap.size v (limI x) dd (limI d) ∧ Below w.heap.size w w' := by
 have B_x := Lib.hid ((nlen_le_iff _ _).2 hx)
 have B_d := Lib.hid ((nlen_le_iff _ _).2 hd)
 clear hx hd
 have RA_x := Lib.hid h0.1
 have RA_d := Lib.hid h0.2
 obtain ⟨⟨a0, c0, rfl, z1, z2, z3⟩, ⟨e0, f0, rfl, z4, z5, z6⟩⟩ := h0
 clear z1 z2 z3 z4 z5 z6
 have L_x := Lib.hid (limI_length x)
 rw [limI_length] at RA_x
 try rw [limI_length x]
 obtain ⟨nx, hnx⟩ : ∃ n, nlen x = n := ⟨_, rfl⟩
 rw [hnx] at RA_x L_x
 try rw [hnx]
 have N_x := Lib.hid hnx
 clear hnx
 have L_d := Lib.hid (limI_length d)
 rw [limI_length] at RA_d
 try rw [limI_length d]
 obtain ⟨nd, hnd⟩ : ∃ n, nlen d = n := ⟨_, rfl⟩
 rw [hnd] at RA_d L_d
 try rw [hnd]
 have N_d := Lib.hid hnd
 clear hnd
 go_enter Tryz.func102, Tryz.ntmps102
 go_wp2_with fail
 obtain ⟨W0, hW0⟩ : ∃ x, x = ((w.alloc (.cells #[.bool b0, .slice a0 nx c0, .slice e0 nd f0] 34)).alloc (.cells #[.bool false, .slice none 0 0, .slice none 0 0] 34)) := ⟨_, rfl⟩
 have B := Lib.hid (show Below w.heap.size w W0 by rw [hW0]; exact (((Below.refl _ _).alloc (Nat.le_refl _) _).alloc (by simp) _))
 have D_x := Lib.hid (rx_at (show Rx W0 _ 34 (b0) (.slice a0 nx c0) (.slice e0 nd f0) by rw [hW0]; exact (Rx.new _ _ _ _ _).alloc _) (show w.heap.size = _ by simp))
 have D_r := Lib.hid (rx_at (show Rx W0 _ 34 (false) (.slice none 0 0) (.slice none 0 0) by rw [hW0]; exact Rx.new _ _ _ _ _) (show (w.heap.size + 1) = _ by simp))
 have SZ := Lib.hid (show W0.heap.size = w.heap.size + 1 + 1 by rw [hW0]; simp)
 rw [← hW0]
 clear hW0
 have BB := Lib.hid (Below.refl W0.heap.size W0)
 have K_a := Lib.hid (fun (W : World) (hW : Below W0.heap.size W0 W) => pre_own (R := fun v => v) (impl_cloneI _ x W (rowOf_below (rowOf_below RA_x.out B.out) hW) (by have := B_x.out; omega)) hW)
 have K_b := Lib.hid (fun (W : World) (hW : Below W0.heap.size W0 W) => pre_own (R := fun v => v) (impl_cloneI _ d W (rowOf_below (rowOf_below RA_d.out B.out) hW) (by have := B_d.out; omega)) hW)
 have c0_x := (D_x.out.below BB.out).c0
 have c1_x := (D_x.out.below BB.out).c1
 have c2_x := (D_x.out.below BB.out).c2
 have HS := Lib.hid (show ∀ W : World, Below W0.heap.size W0 W → (W.cell? ⟨w.heap.size, 0, none⟩ = some (.bool b0) ∧ W.cell? ⟨w.heap.size, 1, none⟩ = some (.slice a0 nx c0) ∧ W.cell? ⟨w.heap.size, 2, none⟩ = some (.slice e0 nd f0)) from fun W hW => ⟨(hW.cell (p := ⟨w.heap.size, 0, none⟩) (D_x.out.below BB.out).lt).trans c0_x, (hW.cell (p := ⟨w.heap.size, 1, none⟩) (D_x.out.below BB.out).lt).trans c1_x, (hW.cell (p := ⟨w.heap.size, 2, none⟩) (D_x.out.below BB.out).lt).trans c2_x⟩)
 have lt_x := (D_x.out.below BB.out).lt
 have c0_r := (D_r.out.below BB.out).c0
 have c1_r := (D_r.out.below BB.out).c1
 have c2_r := (D_r.out.below BB.out).c2
 have f0_r := (D_r.out.below BB.out).f 0
 have f1_r := (D_r.out.below BB.out).f 1
 have f2_r := (D_r.out.below BB.out).f 2
 have HF := Lib.hid (show ∀ W : World, Below W0.heap.size W0 W → (W.cell? ⟨(w.heap.size + 1), 0, none⟩ = some (.bool false) ∧ W.cell? ⟨(w.heap.size + 1), 1, none⟩ = some (.slice none 0 0) ∧ W.cell? ⟨(w.heap.size + 1), 2, none⟩ = some (.slice none 0 0) ∧ W.frozen? ⟨(w.heap.size + 1), 0, none⟩ = false ∧ W.frozen? ⟨(w.heap.size + 1), 1, none⟩ = false ∧ W.frozen? ⟨(w.heap.size + 1), 2, none⟩ = false) from fun W hW => ⟨(hW.cell (p := ⟨(w.heap.size + 1), 0, none⟩) (D_r.out.below BB.out).lt).trans c0_r, (hW.cell (p := ⟨(w.heap.size + 1), 1, none⟩) (D_r.out.below BB.out).lt).trans c1_r, (hW.cell (p := ⟨(w.heap.size + 1), 2, none⟩) (D_r.out.below BB.out).lt).trans c2_r, (hW.frozen (p := ⟨(w.heap.size + 1), 0, none⟩) (D_r.out.below BB.out).lt).trans f0_r, (hW.frozen (p := ⟨(w.heap.size + 1), 1, none⟩) (D_r.out.below BB.out).lt).trans f1_r, (hW.frozen (p := ⟨(w.heap.size + 1), 2, none⟩) (D_r.out.below BB.out).lt).trans f2_r⟩)
 go_region_held3 (fun w' => w'.cell? ⟨w.heap.size, 0, none⟩ = some (.bool b0) ∧ w'.cell? ⟨w.heap.size, 1, none⟩ = some (.slice a0 nx c0) ∧ w'.cell? ⟨w.heap.size, 2, none⟩ = some (.slice e0 nd f0)) (first | exact HS.out _ (by first | with_reducible exact Below.refl _ _ | with_reducible exact (Below.refl _ _).drew | with_reducible exact bb_a | with_reducible exact bb_b) | exact ⟨(cell_far3 (show w.heap.size ≠ (w.heap.size + 1) from by omega) _ _ _).trans ((HS.out _ (by first | with_reducible exact Below.refl _ _ | with_reducible exact (Below.refl _ _).drew | with_reducible exact bb_a | with_reducible exact bb_b)).1), (cell_far3 (show w.heap.size ≠ (w.heap.size + 1) from by omega) _ _ _).trans ((HS.out _ (by first | with_reducible exact Below.refl _ _ | with_reducible exact (Below.refl _ _).drew | with_reducible exact bb_a | with_reducible exact bb_b)).2.1), (cell_far3 (show w.heap.size ≠ (w.heap.size + 1) from by omega) _ _ _).trans ((HS.out _ (by first | with_reducible exact Below.refl _ _ | with_reducible exact (Below.refl _ _).drew | with_reducible exact bb_a | with_reducible exact bb_b)).2.2)⟩)
  (first
   | (go_at_call 118; with_reducible refine (K_b.out _ (by first | with_reducible exact Below.refl _ _ | with_reducible exact (Below.refl _ _).drew | with_reducible exact bb_a | with_reducible exact bb_b)).mono ?_; rintro e w_b ⟨v_b, rfl, o_b, lo_b, bw_b, bb_b⟩; obtain ⟨a_b, c_b, rfl⟩ := o_b.slice; (try with_reducible (have ap_a_b := apart_lo o_a lo_b)); (try first | with_reducible (have o_a := o_a.below bw_b)); obtain ⟨s0, s1, s2, t0, t1, t2⟩ := HF.out _ bb_b)
   | (go_at_call 118; with_reducible refine (K_a.out _ (by first | with_reducible exact Below.refl _ _ | with_reducible exact (Below.refl _ _).drew | with_reducible exact bb_a | with_reducible exact bb_b)).mono ?_; rintro e w_a ⟨v_a, rfl, o_a, lo_a, bw_a, bb_a⟩; obtain ⟨a_a, c_a, rfl⟩ := o_a.slice; (try with_reducible (have ap_b_a := apart_lo o_b lo_a)); (try first | with_reducible (have o_b := o_b.below bw_a)); obtain ⟨s0, s1, s2, t0, t1, t2⟩ := HF.out _ bb_a))
 all_goals first
  | (have oo : OwnR w_a W0.heap.size (.slice a_a (limI x).length c_a) (limI x) (.slice a_b (limI d).length c_b) (limI d) := ⟨o_a, o_b, by first | exact ap_a_b | exact ap_b_a.symm⟩; have D9 := D_r.out.below bb_a; obtain ⟨e1, e2⟩ := rat_end (b' := b0) (B.out.trans (bb_a.mono B.out.size)) D9 oo (by decide) (by have := SZ.out; omega) (by omega) (.slice a_a (limI x).length c_a) (.slice a_b (limI d).length c_b); have D8 := Rx.set3 (b' := b0) (v' := .slice a_a (limI x).length c_a) (d' := .slice a_b (limI d).length c_b) D9; have hc0 := D8.c0; have hc1 := D8.c1; have hc2 := D8.c2; go_wp2; exact bodyPost_ret (v := .agg #[.bool b0, .slice a_a (limI x).length c_a, .slice a_b (limI d).length c_b]) (by simp [results, Tryz.results102, go_sem, hc0, hc1, hc2]) rfl ⟨_, _, rfl, e1, e2⟩)
  | (have oo : OwnR w_b W0.heap.size (.slice a_a (limI x).length c_a) (limI x) (.slice a_b (limI d).length c_b) (limI d) := ⟨o_a, o_b, by first | exact ap_a_b | exact ap_b_a.symm⟩; have D9 := D_r.out.below bb_b; obtain ⟨e1, e2⟩ := rat_end (b' := b0) (B.out.trans (bb_b.mono B.out.size)) D9 oo (by decide) (by have := SZ.out; omega) (by omega) (.slice a_a (limI x).length c_a) (.slice a_b (limI d).length c_b); have D8 := Rx.set3 (b' := b0) (v' := .slice a_a (limI x).length c_a) (d' := .slice a_b (limI d).length c_b) D9; have hc0 := D8.c0; have hc1 := D8.c1; have hc2 := D8.c2; go_wp2; exact bodyPost_ret (v := .agg #[.bool b0, .slice a_a (limI x).length c_a, .slice a_b (limI d).length c_b]) (by simp [results, Tryz.results102, go_sem, hc0, hc1, hc2]) rfl ⟨_, _, rfl, e1, e2⟩)
set_option maxHeartbeats 400000 in
theorem impl_inverse (b0 : Bool) (a : Option Addr) (n c : Nat) (e : Option Addr) (m f : Nat) (w : World) :
  Calls Tryz.prog 164 #[.agg #[.bool b0, .slice a n c, .slice e m f]] w fun r w' => r = .returned (.agg #[.bool b0, .slice e m f, .slice a n c]) ∧ Below w.heap.size w w' := by
 go_enter Tryz.func164, Tryz.ntmps164
 go_wp2
 exact bodyPost_ret (v := .agg #[.bool b0, .slice e m f, .slice a n c]) (by simp [results, Tryz.results164, go_sem]) rfl ⟨rfl, ((Below.refl _ _).alloc (Nat.le_refl _) _).alloc (by simp) _⟩
end Go.Proofs.YtlepgkkpopjgoaaGreat
namespace Go.Proofs.YtlepgkkpopjgoaaGreat
open Go.RowKit Go.WideShapes Go.ChangeShapes
set_option linter.unusedVariables false
set_option linter.unusedSimpArgs false
set_option maxRecDepth 100000 in
set_option maxHeartbeats 1000000 in
theorem spec_ratFromInt (n : Int) (w : World) (hn : -9223372036854775808 ≤ n ∧ n ≤ 9223372036854775807) :
  Calls Tryz.prog 82 #[.int .i64 n] w fun r w' => ∃ v dd, r = .returned (.agg #[.bool (ofB n), v, dd]) ∧ OwnR w' w.heap.size v (ofL n) dd [1] ∧ Below w.heap.size w w' := by
 have HN := Lib.hid hn
 clear hn
 go_enter Tryz.func82, Tryz.ntmps82
 go_wp2_with fail
 obtain ⟨W0, hW0⟩ : ∃ x, x = (w.alloc (.cells #[.bool false, .slice none 0 0, .slice none 0 0] 34)) := ⟨_, rfl⟩
 have B := Lib.hid (show Below w.heap.size w W0 by rw [hW0]; exact ((Below.refl _ _).alloc (Nat.le_refl _) _))
 have D_r := Lib.hid (rx_at (show Rx W0 _ 34 (false) (.slice none 0 0) (.slice none 0 0) by rw [hW0]; exact Rx.new _ _ _ _ _) (show w.heap.size = _ by simp))
 have SZ := Lib.hid (show W0.heap.size = w.heap.size + 1 by rw [hW0]; simp)
 rw [← hW0]
 clear hW0
 have BB := Lib.hid (Below.refl W0.heap.size W0)
 refine (spec_bigOf n _ HN.out).mono ?_
 rintro e w1 ⟨v_x, rfl, o_x, bw1⟩
 obtain ⟨a_x, c_x, rfl⟩ := o_x.slice
 have O_x := Lib.hid (o_x.base BB.out.size)
 clear o_x
 replace B := Lib.hid (B.out.trans (bw1.mono B.out.size))
 replace BB := Lib.hid (BB.out.trans (bw1.mono BB.out.size))
 clear bw1
 have D9 := (D_r.out.below BB.out).alloc (.cells #[.int .i64 1] 3)
 have B9 := B.out.alloc B.out.size (.cells #[.int .i64 1] 3)
 have hs9 := BB.out.size
 have oo : OwnR (w1.alloc (.cells #[.int .i64 1] 3)) W0.heap.size (.slice a_x (ofL n).length c_x) (ofL n) (.slice (some ⟨w1.heap.size, 0, none⟩) 1 1) [1] := ⟨O_x.out.alloc _, OwnI.lit1 _ _ 1 hs9, fun g g' e1 e2 e3 => by have h1 := (O_x.out.lt g e1).2; have h2 : w1.heap.size = g' := (by simpa [Value.ownBlock] using e2); omega⟩
 obtain ⟨e1, e2⟩ := rat_end (b' := ofB n) B9 D9 oo (by decide) (by have := SZ.out; omega) (by omega) (.slice a_x (ofL n).length c_x) (.slice (some ⟨w1.heap.size, 0, none⟩) 1 1)
 have k0 := D9.c0; have k1 := D9.c1; have k2 := D9.c2; have k3 := D9.f 0; have k4 := D9.f 1; have k5 := D9.f 2
 have D8 := Rx.set3 (b' := ofB n) (v' := .slice a_x (ofL n).length c_x) (d' := .slice (some ⟨w1.heap.size, 0, none⟩) 1 1) D9
 have hc0 := D8.c0; have hc1 := D8.c1; have hc2 := D8.c2
 go_wp2
 exact bodyPost_ret (v := .agg #[.bool (ofB n), .slice a_x (ofL n).length c_x, .slice (some ⟨w1.heap.size, 0, none⟩) 1 1]) (by simp [results, Tryz.results82, go_sem, hc0, hc1, hc2]) rfl ⟨_, _, rfl, e1, e2⟩
set_option maxRecDepth 100000 in
set_option maxHeartbeats 1000000 in
theorem impl_ratFromInt (n : Int) (w : World) (hn : -9223372036854775808 ≤ n ∧ n ≤ 9223372036854775807) :
  Calls Tryz.prog 59 #[.int .i64 n] w fun r w' => ∃ v dd, r = .returned (.agg #[.bool (ofB n), v, dd]) ∧ OwnR w' w.heap.size v (ofL n) dd [1] ∧ Below w.heap.size w w' := by
 have HN := Lib.hid hn
 clear hn
 go_enter Tryz.func59, Tryz.ntmps59
 go_wp2_with fail
 obtain ⟨W0, hW0⟩ : ∃ x, x = (w.alloc (.cells #[.bool false, .slice none 0 0, .slice none 0 0] 34)) := ⟨_, rfl⟩
 have B := Lib.hid (show Below w.heap.size w W0 by rw [hW0]; exact ((Below.refl _ _).alloc (Nat.le_refl _) _))
 have D_r := Lib.hid (rx_at (show Rx W0 _ 34 (false) (.slice none 0 0) (.slice none 0 0) by rw [hW0]; exact Rx.new _ _ _ _ _) (show w.heap.size = _ by simp))
 have SZ := Lib.hid (show W0.heap.size = w.heap.size + 1 by rw [hW0]; simp)
 rw [← hW0]
 clear hW0
 have BB := Lib.hid (Below.refl W0.heap.size W0)
 refine (impl_bigOf n _ HN.out).mono ?_
 rintro e w1 ⟨v_x, rfl, o_x, bw1⟩
 obtain ⟨a_x, c_x, rfl⟩ := o_x.slice
 have O_x := Lib.hid (o_x.base BB.out.size)
 clear o_x
 replace B := Lib.hid (B.out.trans (bw1.mono B.out.size))
 replace BB := Lib.hid (BB.out.trans (bw1.mono BB.out.size))
 clear bw1
 have D9 := (D_r.out.below BB.out).alloc (.cells #[.int .i64 1] 3)
 have B9 := B.out.alloc B.out.size (.cells #[.int .i64 1] 3)
 have hs9 := BB.out.size
 have oo : OwnR (w1.alloc (.cells #[.int .i64 1] 3)) W0.heap.size (.slice a_x (ofL n).length c_x) (ofL n) (.slice (some ⟨w1.heap.size, 0, none⟩) 1 1) [1] := ⟨O_x.out.alloc _, OwnI.lit1 _ _ 1 hs9, fun g g' e1 e2 e3 => by have h1 := (O_x.out.lt g e1).2; have h2 : w1.heap.size = g' := (by simpa [Value.ownBlock] using e2); omega⟩
 obtain ⟨e1, e2⟩ := rat_end (b' := ofB n) B9 D9 oo (by decide) (by have := SZ.out; omega) (by omega) (.slice a_x (ofL n).length c_x) (.slice (some ⟨w1.heap.size, 0, none⟩) 1 1)
 have k0 := D9.c0; have k1 := D9.c1; have k2 := D9.c2; have k3 := D9.f 0; have k4 := D9.f 1; have k5 := D9.f 2
 have D8 := Rx.set3 (b' := ofB n) (v' := .slice a_x (ofL n).length c_x) (d' := .slice (some ⟨w1.heap.size, 0, none⟩) 1 1) D9
 have hc0 := D8.c0; have hc1 := D8.c1; have hc2 := D8.c2
 go_wp2
 exact bodyPost_ret (v := .agg #[.bool (ofB n), .slice a_x (ofL n).length c_x, .slice (some ⟨w1.heap.size, 0, none⟩) 1 1]) (by simp [results, Tryz.results59, go_sem, hc0, hc1, hc2]) rfl ⟨_, _, rfl, e1, e2⟩
def oneL : List Int := [1]
theorem spec_ratFromIntL (n : Int) (w : World) (hn : -9223372036854775808 ≤ n ∧ n ≤ 9223372036854775807) :
  Calls Tryz.prog 82 #[.int .i64 n] w fun r w' => ∃ v dd, r = .returned (.agg #[.bool (ofB n), v, dd]) ∧ OwnR w' w.heap.size v (ofL n) dd oneL ∧ Below w.heap.size w w' := by unfold oneL; exact spec_ratFromInt n w hn
theorem impl_ratFromIntL (n : Int) (w : World) (hn : -9223372036854775808 ≤ n ∧ n ≤ 9223372036854775807) :
  Calls Tryz.prog 59 #[.int .i64 n] w fun r w' => ∃ v dd, r = .returned (.agg #[.bool (ofB n), v, dd]) ∧ OwnR w' w.heap.size v (ofL n) dd oneL ∧ Below w.heap.size w w' := by unfold oneL; exact impl_ratFromInt n w hn
end Go.Proofs.YtlepgkkpopjgoaaGreat
namespace Go.Proofs.YtlepgkkpopjgoaaGreat
open Go.RowKit Go.WideShapes Go.ChangeShapes
set_option linter.unusedVariables false
set_option linter.unusedSimpArgs false
set_option maxHeartbeats 1000000 in
theorem impl_ratOk (b : Bool) (v : Value) (zs : List Int) (d : Value) (ds : List Int) (w : World) (h : RowR w v zs d ds) :
  Calls Tryz.prog 65 #[.agg #[.bool b, v, d]] w fun r w' => r = .returned (.bool (ratOk b zs ds)) ∧ Below w.heap.size w w' := by
 have RA_x := Lib.hid h.1
 have RA_d := Lib.hid h.2
 obtain ⟨⟨a, c, rfl, h1, h2, h3⟩, ⟨e, f, rfl, h4, h5, h6⟩⟩ := h
 clear h1 h2 h3 h4 h5 h6
 obtain ⟨n, hn⟩ : ∃ n, zs.length = n := ⟨_, rfl⟩
 obtain ⟨m, hm⟩ : ∃ n, ds.length = n := ⟨_, rfl⟩
 rw [hn] at RA_x ⊢
 rw [hm] at RA_d ⊢
 have HN := Lib.hid hn
 have HM := Lib.hid hm
 clear hn hm
 by_cases h0 : 0 < m
 rotate_left
 ·have HR := Lib.hid (show ratOk b zs ds = false from ratOk_len (by rw [HM.out]; omega))
  rw [HR.out]
  obtain rfl : m = 0 := by omega
  go_enter Tryz.func65, Tryz.ntmps65
  go_wp2
  go_ret
  exact ⟨ret_bool rfl, (Below.refl _ _).alloc (Nat.le_refl _) _⟩
 cases hs : (decide (n ≤ 24) && decide (m ≤ 24)) with
 | false =>
  have HS := Lib.hid hs
  have HR := Lib.hid (show ratOk b zs ds = false from ratOk_len (by rw [HM.out, HN.out]; simp at hs; omega))
  rw [HR.out]
  clear hs
  go_enter Tryz.func65, Tryz.ntmps65
  go_wp2_with fail
  obtain ⟨W0, hW0⟩ : ∃ x, x = (w.alloc (.cells #[.bool b, .slice a n c, .slice e m f] 34)) := ⟨_, rfl⟩
  have B := Lib.hid (show Below w.heap.size w W0 by rw [hW0]; exact ((Below.refl _ _).alloc (Nat.le_refl _) _))
  have D_x := Lib.hid (rx_at (show Rx W0 _ 34 (b) (.slice a n c) (.slice e m f) by rw [hW0]; exact Rx.new _ _ _ _ _) (show w.heap.size = _ by simp))
  have SZ := Lib.hid (show W0.heap.size = w.heap.size + 1 by rw [hW0]; simp)
  rw [← hW0]
  clear hW0
  have BB := Lib.hid (Below.refl W0.heap.size W0)
  refine (impl_isShort b a n c e m f _).mono ?_
  rw [HS.out]
  rintro e w1 ⟨rfl, bw1⟩
  replace B := Lib.hid (B.out.trans (bw1.mono B.out.size))
  replace BB := Lib.hid (BB.out.trans (bw1.mono BB.out.size))
  clear bw1
  have c0_x := (D_x.out.below BB.out).c0
  have c1_x := (D_x.out.below BB.out).c1
  have c2_x := (D_x.out.below BB.out).c2
  go_wp2
  go_ret
  exact ⟨ret_bool (by first | rfl | (rw [HR.out]) | (simp; omega)), B.out⟩
 | true =>
  have HS := Lib.hid hs
  cases hb : bigOk b zs with
  | false =>
   have HB := Lib.hid hb
   have HR := Lib.hid (show ratOk b zs ds = false from ratOk_big hb)
   rw [HR.out]
   clear hb hs
   go_enter Tryz.func65, Tryz.ntmps65
   go_wp2_with fail
   obtain ⟨W0, hW0⟩ : ∃ x, x = (w.alloc (.cells #[.bool b, .slice a n c, .slice e m f] 34)) := ⟨_, rfl⟩
   have B := Lib.hid (show Below w.heap.size w W0 by rw [hW0]; exact ((Below.refl _ _).alloc (Nat.le_refl _) _))
   have D_x := Lib.hid (rx_at (show Rx W0 _ 34 (b) (.slice a n c) (.slice e m f) by rw [hW0]; exact Rx.new _ _ _ _ _) (show w.heap.size = _ by simp))
   have SZ := Lib.hid (show W0.heap.size = w.heap.size + 1 by rw [hW0]; simp)
   rw [← hW0]
   clear hW0
   have BB := Lib.hid (Below.refl W0.heap.size W0)
   refine (impl_isShort b a n c e m f _).mono ?_
   rw [HS.out]
   rintro e w1 ⟨rfl, bw1⟩
   replace B := Lib.hid (B.out.trans (bw1.mono B.out.size))
   replace BB := Lib.hid (BB.out.trans (bw1.mono BB.out.size))
   clear bw1
   have c0_x := (D_x.out.below BB.out).c0
   have c1_x := (D_x.out.below BB.out).c1
   have c2_x := (D_x.out.below BB.out).c2
   go_wp2_with fail
   clear c0_x c1_x c2_x
   refine (impl_bigOkB b _ zs _ (rowOf_below RA_x.out B.out)).mono ?_
   rw [HB.out]
   rintro e w2 ⟨rfl, bw2⟩
   replace B := Lib.hid (B.out.trans (bw2.mono B.out.size))
   replace BB := Lib.hid (BB.out.trans (bw2.mono BB.out.size))
   clear bw2
   have c0_x := (D_x.out.below BB.out).c0
   have c1_x := (D_x.out.below BB.out).c1
   have c2_x := (D_x.out.below BB.out).c2
   go_wp2
   go_ret
   exact ⟨ret_bool (by first | rfl | (rw [HR.out]) | (simp; omega)), B.out⟩
  | true =>
   have HB := Lib.hid hb
   cases hd : okB ds with
   | false =>
    have HD := Lib.hid hd
    have HR := Lib.hid (show ratOk b zs ds = false from ratOk_den hd)
    rw [HR.out]
    clear hb hd hs
    go_enter Tryz.func65, Tryz.ntmps65
    go_wp2_with fail
    obtain ⟨W0, hW0⟩ : ∃ x, x = (w.alloc (.cells #[.bool b, .slice a n c, .slice e m f] 34)) := ⟨_, rfl⟩
    have B := Lib.hid (show Below w.heap.size w W0 by rw [hW0]; exact ((Below.refl _ _).alloc (Nat.le_refl _) _))
    have D_x := Lib.hid (rx_at (show Rx W0 _ 34 (b) (.slice a n c) (.slice e m f) by rw [hW0]; exact Rx.new _ _ _ _ _) (show w.heap.size = _ by simp))
    have SZ := Lib.hid (show W0.heap.size = w.heap.size + 1 by rw [hW0]; simp)
    rw [← hW0]
    clear hW0
    have BB := Lib.hid (Below.refl W0.heap.size W0)
    refine (impl_isShort b a n c e m f _).mono ?_
    rw [HS.out]
    rintro e w1 ⟨rfl, bw1⟩
    replace B := Lib.hid (B.out.trans (bw1.mono B.out.size))
    replace BB := Lib.hid (BB.out.trans (bw1.mono BB.out.size))
    clear bw1
    have c0_x := (D_x.out.below BB.out).c0
    have c1_x := (D_x.out.below BB.out).c1
    have c2_x := (D_x.out.below BB.out).c2
    go_wp2_with fail
    clear c0_x c1_x c2_x
    refine (impl_bigOkB b _ zs _ (rowOf_below RA_x.out B.out)).mono ?_
    rw [HB.out]
    rintro e w2 ⟨rfl, bw2⟩
    replace B := Lib.hid (B.out.trans (bw2.mono B.out.size))
    replace BB := Lib.hid (BB.out.trans (bw2.mono BB.out.size))
    clear bw2
    have c0_x := (D_x.out.below BB.out).c0
    have c1_x := (D_x.out.below BB.out).c1
    have c2_x := (D_x.out.below BB.out).c2
    go_wp2_with fail
    clear c0_x c1_x c2_x
    refine (impl_natOk _ ds _ (rowOf_below RA_d.out B.out)).mono ?_
    rw [HD.out]
    rintro r w9 ⟨rfl, rfl⟩
    have c0_x := (D_x.out.below BB.out).c0
    have c1_x := (D_x.out.below BB.out).c1
    have c2_x := (D_x.out.below BB.out).c2
    go_wp2
    go_ret
    exact ⟨ret_bool (by first | rfl | (rw [HR.out]) | (simp; omega)), B.out⟩
   | true =>
    have HD := Lib.hid hd
    have hm24 : m ≤ 24 := by simp at hs; omega
    have hn24 : n ≤ 24 := by simp at hs; omega
    clear hs
    obtain ⟨x, hz, hx⟩ := okB_cases (bigOk_ok hb)
    obtain ⟨d, he, hd9⟩ := okB_cases hd
    have HX := Lib.hid (show nlen x ≤ 24 by rw [← limI_length, ← hz, HN.out]; exact hn24)
    have HY := Lib.hid (show nlen d ≤ 24 by rw [← limI_length, ← he, HM.out]; exact hm24)
    have HR := Lib.hid (show ratOk b zs ds = decide (Nat.gcd x d = 1) by
     have hz' := hz; have he' := he
     have h9 : 0 < d := (limI_pos d).1 (by rw [← he', HM.out]; exact h0)
     have hbx : b = true → 0 < x := fun hb' => by subst hb'; exact (limI_pos x).1 (by rw [← hz']; exact bigOk_pos hb)
     rw [hz', he']
     exact ratOk_make ((nlen_le_iff _ _).1 HX.out) ((nlen_le_iff _ _).1 HY.out) h9 hbx)
    rw [HR.out]
    have HZ := Lib.hid hz
    have HE := Lib.hid he
    clear hb hd hz hx he hd9
    go_enter Tryz.func65, Tryz.ntmps65
    go_wp2_with fail
    obtain ⟨W0, hW0⟩ : ∃ x, x = (w.alloc (.cells #[.bool b, .slice a n c, .slice e m f] 34)) := ⟨_, rfl⟩
    have B := Lib.hid (show Below w.heap.size w W0 by rw [hW0]; exact ((Below.refl _ _).alloc (Nat.le_refl _) _))
    have D_x := Lib.hid (rx_at (show Rx W0 _ 34 (b) (.slice a n c) (.slice e m f) by rw [hW0]; exact Rx.new _ _ _ _ _) (show w.heap.size = _ by simp))
    have SZ := Lib.hid (show W0.heap.size = w.heap.size + 1 by rw [hW0]; simp)
    rw [← hW0]
    clear hW0
    have BB := Lib.hid (Below.refl W0.heap.size W0)
    refine (impl_isShort b a n c e m f _).mono ?_
    rw [HS.out]
    rintro e w1 ⟨rfl, bw1⟩
    replace B := Lib.hid (B.out.trans (bw1.mono B.out.size))
    replace BB := Lib.hid (BB.out.trans (bw1.mono BB.out.size))
    clear bw1
    have c0_x := (D_x.out.below BB.out).c0
    have c1_x := (D_x.out.below BB.out).c1
    have c2_x := (D_x.out.below BB.out).c2
    go_wp2_with fail
    clear c0_x c1_x c2_x
    refine (impl_bigOkB b _ zs _ (rowOf_below RA_x.out B.out)).mono ?_
    rw [HB.out]
    rintro e w2 ⟨rfl, bw2⟩
    replace B := Lib.hid (B.out.trans (bw2.mono B.out.size))
    replace BB := Lib.hid (BB.out.trans (bw2.mono BB.out.size))
    clear bw2
    have c0_x := (D_x.out.below BB.out).c0
    have c1_x := (D_x.out.below BB.out).c1
    have c2_x := (D_x.out.below BB.out).c2
    go_wp2_with fail
    clear c0_x c1_x c2_x
    refine (impl_natOk _ ds _ (rowOf_below RA_d.out B.out)).mono ?_
    rw [HD.out]
    rintro r w9 ⟨rfl, rfl⟩
    have c0_x := (D_x.out.below BB.out).c0
    have c1_x := (D_x.out.below BB.out).c1
    have c2_x := (D_x.out.below BB.out).c2
    go_wp2_with fail
    clear c0_x c1_x c2_x
    refine (impl_common _ _ x d _ (row_cast (rowOf_below RA_x.out B.out) HZ.out) (row_cast (rowOf_below RA_d.out B.out) HE.out) (by have := HX.out; omega) (by have := HY.out; omega)).mono ?_
    rintro e w3 ⟨v_g, rfl, o_g, bw3⟩
    obtain ⟨a_g, c_g, rfl⟩ := o_g.slice
    have Q_g := Lib.hid o_g.row
    clear o_g
    replace B := Lib.hid (B.out.trans (bw3.mono B.out.size))
    replace BB := Lib.hid (BB.out.trans (bw3.mono BB.out.size))
    clear bw3
    have c0_x := (D_x.out.below BB.out).c0
    have c1_x := (D_x.out.below BB.out).c1
    have c2_x := (D_x.out.below BB.out).c2
    go_wp2_with fail
    clear c0_x c1_x c2_x
    refine (impl_isOne _ (Nat.gcd x d) _ Q_g.out).mono ?_
    rintro r w9 ⟨rfl, rfl⟩
    go_wp2
    go_ret
    exact ⟨ret_bool (by first | rfl | (rw [HR.out]) | (simp; omega)), B.out⟩
set_option maxHeartbeats 1000000 in
theorem spec_ratOk (b : Bool) (v : Value) (zs : List Int) (d : Value) (ds : List Int) (w : World) (h : RowR w v zs d ds) :
  Calls Tryz.prog 120 #[.agg #[.bool b, v, d]] w fun r w' => r = .returned (.bool (ratOk b zs ds)) ∧ Below w.heap.size w w' := by
 have RA_x := Lib.hid h.1
 have RA_d := Lib.hid h.2
 obtain ⟨⟨a, c, rfl, h1, h2, h3⟩, ⟨e, f, rfl, h4, h5, h6⟩⟩ := h
 clear h1 h2 h3 h4 h5 h6
 obtain ⟨n, hn⟩ : ∃ n, zs.length = n := ⟨_, rfl⟩
 obtain ⟨m, hm⟩ : ∃ n, ds.length = n := ⟨_, rfl⟩
 rw [hn] at RA_x ⊢
 rw [hm] at RA_d ⊢
 have HN := Lib.hid hn
 have HM := Lib.hid hm
 clear hn hm
 cases hb : bigOk b zs with
 | false =>
  have HB := Lib.hid hb
  have HR := Lib.hid (show ratOk b zs ds = false from ratOk_big hb)
  rw [HR.out]
  clear hb
  go_enter Tryz.func120, Tryz.ntmps120
  go_wp2_with fail
  obtain ⟨W0, hW0⟩ : ∃ x, x = (w.alloc (.cells #[.bool b, .slice a n c, .slice e m f] 34)) := ⟨_, rfl⟩
  have B := Lib.hid (show Below w.heap.size w W0 by rw [hW0]; exact ((Below.refl _ _).alloc (Nat.le_refl _) _))
  have D_x := Lib.hid (rx_at (show Rx W0 _ 34 (b) (.slice a n c) (.slice e m f) by rw [hW0]; exact Rx.new _ _ _ _ _) (show w.heap.size = _ by simp))
  have SZ := Lib.hid (show W0.heap.size = w.heap.size + 1 by rw [hW0]; simp)
  rw [← hW0]
  clear hW0
  have BB := Lib.hid (Below.refl W0.heap.size W0)
  refine (spec_bigOkB b _ zs _ (rowOf_below RA_x.out B.out)).mono ?_
  rw [HB.out]
  rintro e w1 ⟨rfl, bw1⟩
  replace B := Lib.hid (B.out.trans (bw1.mono B.out.size))
  replace BB := Lib.hid (BB.out.trans (bw1.mono BB.out.size))
  clear bw1
  have c0_x := (D_x.out.below BB.out).c0
  have c1_x := (D_x.out.below BB.out).c1
  have c2_x := (D_x.out.below BB.out).c2
  go_wp2
  go_ret
  exact ⟨ret_bool (by first | rfl | (rw [HR.out]) | (simp; omega)), B.out⟩
 | true =>
  have HB := Lib.hid hb
  cases hd : okB ds with
  | false =>
   have HD := Lib.hid hd
   have HR := Lib.hid (show ratOk b zs ds = false from ratOk_den hd)
   rw [HR.out]
   clear hb hd
   go_enter Tryz.func120, Tryz.ntmps120
   go_wp2_with fail
   obtain ⟨W0, hW0⟩ : ∃ x, x = (w.alloc (.cells #[.bool b, .slice a n c, .slice e m f] 34)) := ⟨_, rfl⟩
   have B := Lib.hid (show Below w.heap.size w W0 by rw [hW0]; exact ((Below.refl _ _).alloc (Nat.le_refl _) _))
   have D_x := Lib.hid (rx_at (show Rx W0 _ 34 (b) (.slice a n c) (.slice e m f) by rw [hW0]; exact Rx.new _ _ _ _ _) (show w.heap.size = _ by simp))
   have SZ := Lib.hid (show W0.heap.size = w.heap.size + 1 by rw [hW0]; simp)
   rw [← hW0]
   clear hW0
   have BB := Lib.hid (Below.refl W0.heap.size W0)
   refine (spec_bigOkB b _ zs _ (rowOf_below RA_x.out B.out)).mono ?_
   rw [HB.out]
   rintro e w1 ⟨rfl, bw1⟩
   replace B := Lib.hid (B.out.trans (bw1.mono B.out.size))
   replace BB := Lib.hid (BB.out.trans (bw1.mono BB.out.size))
   clear bw1
   have c0_x := (D_x.out.below BB.out).c0
   have c1_x := (D_x.out.below BB.out).c1
   have c2_x := (D_x.out.below BB.out).c2
   go_wp2_with fail
   clear c0_x c1_x c2_x
   refine (spec_natOk _ ds _ (rowOf_below RA_d.out B.out)).mono ?_
   rw [HD.out]
   rintro r w9 ⟨rfl, rfl⟩
   have c0_x := (D_x.out.below BB.out).c0
   have c1_x := (D_x.out.below BB.out).c1
   have c2_x := (D_x.out.below BB.out).c2
   go_wp2
   go_ret
   exact ⟨ret_bool (by first | rfl | (rw [HR.out]) | (simp; omega)), B.out⟩
  | true =>
   have HD := Lib.hid hd
   by_cases h9 : ¬ 0 < m
   ·have HR := Lib.hid (show ratOk b zs ds = false from ratOk_len (by rw [HM.out, HN.out]; omega))
    rw [HR.out]
    clear hb hd
    have hq : ((m : Int) == 0) = true := by simp; omega
    go_enter Tryz.func120, Tryz.ntmps120
    go_wp2_with fail
    obtain ⟨W0, hW0⟩ : ∃ x, x = (w.alloc (.cells #[.bool b, .slice a n c, .slice e m f] 34)) := ⟨_, rfl⟩
    have B := Lib.hid (show Below w.heap.size w W0 by rw [hW0]; exact ((Below.refl _ _).alloc (Nat.le_refl _) _))
    have D_x := Lib.hid (rx_at (show Rx W0 _ 34 (b) (.slice a n c) (.slice e m f) by rw [hW0]; exact Rx.new _ _ _ _ _) (show w.heap.size = _ by simp))
    have SZ := Lib.hid (show W0.heap.size = w.heap.size + 1 by rw [hW0]; simp)
    rw [← hW0]
    clear hW0
    have BB := Lib.hid (Below.refl W0.heap.size W0)
    refine (spec_bigOkB b _ zs _ (rowOf_below RA_x.out B.out)).mono ?_
    rw [HB.out]
    rintro e w1 ⟨rfl, bw1⟩
    replace B := Lib.hid (B.out.trans (bw1.mono B.out.size))
    replace BB := Lib.hid (BB.out.trans (bw1.mono BB.out.size))
    clear bw1
    have c0_x := (D_x.out.below BB.out).c0
    have c1_x := (D_x.out.below BB.out).c1
    have c2_x := (D_x.out.below BB.out).c2
    go_wp2_with fail
    clear c0_x c1_x c2_x
    refine (spec_natOk _ ds _ (rowOf_below RA_d.out B.out)).mono ?_
    rw [HD.out]
    rintro r w9 ⟨rfl, rfl⟩
    have c0_x := (D_x.out.below BB.out).c0
    have c1_x := (D_x.out.below BB.out).c1
    have c2_x := (D_x.out.below BB.out).c2
    go_wp2
    go_ret
    exact ⟨ret_bool (by first | rfl | (rw [HR.out]) | (simp; omega)), B.out⟩
   have h0 : 0 < m := by omega
   have q0 : ((m : Int) == 0) = false := by simp; omega
   clear h9
   by_cases h9 : ¬ m ≤ 24
   ·have HR := Lib.hid (show ratOk b zs ds = false from ratOk_len (by rw [HM.out, HN.out]; omega))
    rw [HR.out]
    clear hb hd
    have hq : decide (24 < (m : Int)) = true := by simp; omega
    go_enter Tryz.func120, Tryz.ntmps120
    go_wp2_with fail
    obtain ⟨W0, hW0⟩ : ∃ x, x = (w.alloc (.cells #[.bool b, .slice a n c, .slice e m f] 34)) := ⟨_, rfl⟩
    have B := Lib.hid (show Below w.heap.size w W0 by rw [hW0]; exact ((Below.refl _ _).alloc (Nat.le_refl _) _))
    have D_x := Lib.hid (rx_at (show Rx W0 _ 34 (b) (.slice a n c) (.slice e m f) by rw [hW0]; exact Rx.new _ _ _ _ _) (show w.heap.size = _ by simp))
    have SZ := Lib.hid (show W0.heap.size = w.heap.size + 1 by rw [hW0]; simp)
    rw [← hW0]
    clear hW0
    have BB := Lib.hid (Below.refl W0.heap.size W0)
    refine (spec_bigOkB b _ zs _ (rowOf_below RA_x.out B.out)).mono ?_
    rw [HB.out]
    rintro e w1 ⟨rfl, bw1⟩
    replace B := Lib.hid (B.out.trans (bw1.mono B.out.size))
    replace BB := Lib.hid (BB.out.trans (bw1.mono BB.out.size))
    clear bw1
    have c0_x := (D_x.out.below BB.out).c0
    have c1_x := (D_x.out.below BB.out).c1
    have c2_x := (D_x.out.below BB.out).c2
    go_wp2_with fail
    clear c0_x c1_x c2_x
    refine (spec_natOk _ ds _ (rowOf_below RA_d.out B.out)).mono ?_
    rw [HD.out]
    rintro r w9 ⟨rfl, rfl⟩
    have c0_x := (D_x.out.below BB.out).c0
    have c1_x := (D_x.out.below BB.out).c1
    have c2_x := (D_x.out.below BB.out).c2
    go_wp2
    go_ret
    exact ⟨ret_bool (by first | rfl | (rw [HR.out]) | (simp; omega)), B.out⟩
   have hm24 : m ≤ 24 := by omega
   have q1 : decide (24 < (m : Int)) = false := by simp; omega
   clear h9
   by_cases h9 : ¬ n ≤ 24
   ·have HR := Lib.hid (show ratOk b zs ds = false from ratOk_len (by rw [HM.out, HN.out]; omega))
    rw [HR.out]
    clear hb hd
    have hq : decide (24 < (n : Int)) = true := by simp; omega
    go_enter Tryz.func120, Tryz.ntmps120
    go_wp2_with fail
    obtain ⟨W0, hW0⟩ : ∃ x, x = (w.alloc (.cells #[.bool b, .slice a n c, .slice e m f] 34)) := ⟨_, rfl⟩
    have B := Lib.hid (show Below w.heap.size w W0 by rw [hW0]; exact ((Below.refl _ _).alloc (Nat.le_refl _) _))
    have D_x := Lib.hid (rx_at (show Rx W0 _ 34 (b) (.slice a n c) (.slice e m f) by rw [hW0]; exact Rx.new _ _ _ _ _) (show w.heap.size = _ by simp))
    have SZ := Lib.hid (show W0.heap.size = w.heap.size + 1 by rw [hW0]; simp)
    rw [← hW0]
    clear hW0
    have BB := Lib.hid (Below.refl W0.heap.size W0)
    refine (spec_bigOkB b _ zs _ (rowOf_below RA_x.out B.out)).mono ?_
    rw [HB.out]
    rintro e w1 ⟨rfl, bw1⟩
    replace B := Lib.hid (B.out.trans (bw1.mono B.out.size))
    replace BB := Lib.hid (BB.out.trans (bw1.mono BB.out.size))
    clear bw1
    have c0_x := (D_x.out.below BB.out).c0
    have c1_x := (D_x.out.below BB.out).c1
    have c2_x := (D_x.out.below BB.out).c2
    go_wp2_with fail
    clear c0_x c1_x c2_x
    refine (spec_natOk _ ds _ (rowOf_below RA_d.out B.out)).mono ?_
    rw [HD.out]
    rintro r w9 ⟨rfl, rfl⟩
    have c0_x := (D_x.out.below BB.out).c0
    have c1_x := (D_x.out.below BB.out).c1
    have c2_x := (D_x.out.below BB.out).c2
    go_wp2
    go_ret
    exact ⟨ret_bool (by first | rfl | (rw [HR.out]) | (simp; omega)), B.out⟩
   have hn24 : n ≤ 24 := by omega
   have q2 : decide (24 < (n : Int)) = false := by simp; omega
   clear h9
   obtain ⟨x, hz, hx⟩ := okB_cases (bigOk_ok hb)
   obtain ⟨d, he, hd9⟩ := okB_cases hd
   have HX := Lib.hid (show nlen x ≤ 24 by rw [← limI_length, ← hz, HN.out]; exact hn24)
   have HY := Lib.hid (show nlen d ≤ 24 by rw [← limI_length, ← he, HM.out]; exact hm24)
   have HR := Lib.hid (show ratOk b zs ds = decide (Nat.gcd x d = 1) by
    have hz' := hz; have he' := he
    have h9 : 0 < d := (limI_pos d).1 (by rw [← he', HM.out]; exact h0)
    have hbx : b = true → 0 < x := fun hb' => by subst hb'; exact (limI_pos x).1 (by rw [← hz']; exact bigOk_pos hb)
    rw [hz', he']
    exact ratOk_make ((nlen_le_iff _ _).1 HX.out) ((nlen_le_iff _ _).1 HY.out) h9 hbx)
   rw [HR.out]
   have HZ := Lib.hid hz
   have HE := Lib.hid he
   clear hb hd hz hx he hd9
   go_enter Tryz.func120, Tryz.ntmps120
   go_wp2_with fail
   obtain ⟨W0, hW0⟩ : ∃ x, x = (w.alloc (.cells #[.bool b, .slice a n c, .slice e m f] 34)) := ⟨_, rfl⟩
   have B := Lib.hid (show Below w.heap.size w W0 by rw [hW0]; exact ((Below.refl _ _).alloc (Nat.le_refl _) _))
   have D_x := Lib.hid (rx_at (show Rx W0 _ 34 (b) (.slice a n c) (.slice e m f) by rw [hW0]; exact Rx.new _ _ _ _ _) (show w.heap.size = _ by simp))
   have SZ := Lib.hid (show W0.heap.size = w.heap.size + 1 by rw [hW0]; simp)
   rw [← hW0]
   clear hW0
   have BB := Lib.hid (Below.refl W0.heap.size W0)
   refine (spec_bigOkB b _ zs _ (rowOf_below RA_x.out B.out)).mono ?_
   rw [HB.out]
   rintro e w1 ⟨rfl, bw1⟩
   replace B := Lib.hid (B.out.trans (bw1.mono B.out.size))
   replace BB := Lib.hid (BB.out.trans (bw1.mono BB.out.size))
   clear bw1
   have c0_x := (D_x.out.below BB.out).c0
   have c1_x := (D_x.out.below BB.out).c1
   have c2_x := (D_x.out.below BB.out).c2
   go_wp2_with fail
   clear c0_x c1_x c2_x
   refine (spec_natOk _ ds _ (rowOf_below RA_d.out B.out)).mono ?_
   rw [HD.out]
   rintro r w9 ⟨rfl, rfl⟩
   have c0_x := (D_x.out.below BB.out).c0
   have c1_x := (D_x.out.below BB.out).c1
   have c2_x := (D_x.out.below BB.out).c2
   go_wp2_with fail
   clear c0_x c1_x c2_x
   refine (spec_gcd _ _ x d _ (row_cast (rowOf_below RA_x.out B.out) HZ.out) (row_cast (rowOf_below RA_d.out B.out) HE.out) (by have := HX.out; omega) (by have := HY.out; omega)).mono ?_
   rintro e w2 ⟨v_g, rfl, o_g, bw2⟩
   obtain ⟨a_g, c_g, rfl⟩ := o_g.slice
   have Q_g := Lib.hid o_g.row
   clear o_g
   replace B := Lib.hid (B.out.trans (bw2.mono B.out.size))
   replace BB := Lib.hid (BB.out.trans (bw2.mono BB.out.size))
   clear bw2
   have c0_x := (D_x.out.below BB.out).c0
   have c1_x := (D_x.out.below BB.out).c1
   have c2_x := (D_x.out.below BB.out).c2
   go_wp2_with fail
   clear c0_x c1_x c2_x
   refine (spec_isOne _ (Nat.gcd x d) _ Q_g.out).mono ?_
   rintro r w9 ⟨rfl, rfl⟩
   go_wp2
   go_ret
   exact ⟨ret_bool (by first | rfl | (rw [HR.out]) | (simp; omega)), B.out⟩
end Go.Proofs.YtlepgkkpopjgoaaGreat
