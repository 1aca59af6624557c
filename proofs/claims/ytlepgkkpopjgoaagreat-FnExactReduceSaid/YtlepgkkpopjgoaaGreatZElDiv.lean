/- l05Div of the model. -/
import Derived.Test.YtlepgkkpopjgoaaGreatZElim
import Derived.Test.YtlepgkkpopjgoaaGreatZSpecCore
import Derived.Test.YtlepgkkpopjgoaaGreatZRatOps
import Derived.Test.YtlepgkkpopjgoaaGreatZVecx
import Derived.Test.YtlepgkkpopjgoaaGreatZVecSub
namespace Go.Proofs.YtlepgkkpopjgoaaGreat
open Go.RowKit Go.WideShapes Go.ChangeShapes
set_option linter.unusedVariables false
set_option linter.unusedSimpArgs false

set_option maxHeartbeats 4000000 in
theorem spec_divA (b0 : Bool) (v0 : Value) (x : Nat) (d0 : Value) (d : Nat) (b1 : Bool) (v1 : Value) (y : Nat) (d1 : Value) (e : Nat) (w : World) (h0 : RowR w v0 (limI x) d0 (limI d)) (h1 : RowR w v1 (limI y) d1 (limI e))
    (hx : x < pw 24) (hd : d < pw 24) (hy : y < pw 24) (he : e < pw 24) :
    Calls Tryz.prog 123 #[.agg #[.bool b0, v0, d0], .agg #[.bool b1, v1, d1]] w fun r w' => ∃ v dd, r = .returned (.agg #[.bool (mkB (!(b0 == b1)) (lowX (x * e) (d * y)) (lowD (x * e) (d * y))), v, dd]) ∧ OwnR w' w.heap.size v (mkZ (lowX (x * e) (d * y)) (lowD (x * e) (d * y))) dd (mkD (lowX (x * e) (d * y)) (lowD (x * e) (d * y))) ∧ Below w.heap.size w w' := by
  have P1 := Lib.hid (Nat.lt_trans (mul24 hx he) (pw_lt (by omega : 48 < 60)))
  have P2 := Lib.hid (Nat.lt_trans (mul24 hd hy) (pw_lt (by omega : 48 < 60)))
  have B_x := Lib.hid ((nlen_le_iff _ _).2 hx)
  have B_d := Lib.hid ((nlen_le_iff _ _).2 hd)
  have B_y := Lib.hid ((nlen_le_iff _ _).2 hy)
  have B_e := Lib.hid ((nlen_le_iff _ _).2 he)
  clear hx hd hy he
  have RA_x := Lib.hid h0.1
  have RA_d := Lib.hid h0.2
  obtain ⟨⟨a0, c0, rfl, z1, z2, z3⟩, ⟨e0, f0, rfl, z4, z5, z6⟩⟩ := h0
  clear z1 z2 z3 z4 z5 z6
  have RA_y := Lib.hid h1.1
  have RA_e := Lib.hid h1.2
  obtain ⟨⟨a1, c1, rfl, z1, z2, z3⟩, ⟨e1, f1, rfl, z4, z5, z6⟩⟩ := h1
  clear z1 z2 z3 z4 z5 z6
  have L_x := Lib.hid (limI_length x)
  rw [limI_length] at RA_x
  try rw [limI_length x]
  obtain ⟨nx, hnx⟩ : ∃ n, nlen x = n := ⟨_, rfl⟩
  rw [hnx] at RA_x L_x
  try rw [hnx]
  have N_x := Lib.hid hnx
  clear hnx
  have L_d := Lib.hid (limI_length d)
  rw [limI_length] at RA_d
  try rw [limI_length d]
  obtain ⟨nd, hnd⟩ : ∃ n, nlen d = n := ⟨_, rfl⟩
  rw [hnd] at RA_d L_d
  try rw [hnd]
  have N_d := Lib.hid hnd
  clear hnd
  have L_y := Lib.hid (limI_length y)
  rw [limI_length] at RA_y
  try rw [limI_length y]
  obtain ⟨ny, hny⟩ : ∃ n, nlen y = n := ⟨_, rfl⟩
  rw [hny] at RA_y L_y
  try rw [hny]
  have N_y := Lib.hid hny
  clear hny
  have L_e := Lib.hid (limI_length e)
  rw [limI_length] at RA_e
  try rw [limI_length e]
  obtain ⟨ne, hne⟩ : ∃ n, nlen e = n := ⟨_, rfl⟩
  rw [hne] at RA_e L_e
  try rw [hne]
  have N_e := Lib.hid hne
  clear hne
  obtain ⟨SS, hSS⟩ : ∃ s, (!(b0 == b1)) = s := ⟨_, rfl⟩
  obtain ⟨XX, hXX⟩ : ∃ s, (lowX (x * e) (d * y)) = s := ⟨_, rfl⟩
  obtain ⟨DD, hDD⟩ : ∃ s, (lowD (x * e) (d * y)) = s := ⟨_, rfl⟩
  rw [hSS, hXX, hDD]
  have HE := Lib.hid (And.intro hXX hDD)
  clear hXX hDD
  go_enter Tryz.func123, Tryz.ntmps123
  go_wp2_with fail
  obtain ⟨W0, hW0⟩ : ∃ x, x = (((w.alloc (.cells #[.bool b0, .slice a0 nx c0, .slice e0 nd f0] 34)).alloc (.cells #[.bool b1, .slice a1 ny c1, .slice e1 ne f1] 34)).alloc (.cells #[.bool false, .slice none 0 0, .slice none 0 0] 34)) := ⟨_, rfl⟩
  have B := Lib.hid (show Below w.heap.size w W0 by rw [hW0]; exact ((((Below.refl _ _).alloc (Nat.le_refl _) _).alloc (by simp) _).alloc (by simp; omega) _))
  have D_x := Lib.hid (rx_at (show Rx W0 _ 34 (b0) (.slice a0 nx c0) (.slice e0 nd f0) by rw [hW0]; exact ((Rx.new _ _ _ _ _).alloc _).alloc _) (show w.heap.size = _ by simp))
  have D_y := Lib.hid (rx_at (show Rx W0 _ 34 (b1) (.slice a1 ny c1) (.slice e1 ne f1) by rw [hW0]; exact (Rx.new _ _ _ _ _).alloc _) (show (w.heap.size + 1) = _ by simp))
  have D_r := Lib.hid (rx_at (show Rx W0 _ 34 (false) (.slice none 0 0) (.slice none 0 0) by rw [hW0]; exact Rx.new _ _ _ _ _) (show (w.heap.size + 1 + 1) = _ by simp))
  have SZ := Lib.hid (show W0.heap.size = w.heap.size + 1 + 1 + 1 by rw [hW0]; simp)
  rw [← hW0]
  clear hW0
  have BB := Lib.hid (Below.refl W0.heap.size W0)
  have K_a := Lib.hid (fun (W : World) (hW : Below W0.heap.size W0 W) => pre_own (R := fun v => v) (spec_mulAny _ _ x e W (rowOf_below (rowOf_below RA_x.out B.out) hW) (rowOf_below (rowOf_below RA_e.out B.out) hW) (by have := B_x.out; omega) (by have := B_e.out; omega)) hW)
  have K_b := Lib.hid (fun (W : World) (hW : Below W0.heap.size W0 W) => pre_own (R := fun v => v) (spec_mulAny _ _ d y W (rowOf_below (rowOf_below RA_d.out B.out) hW) (rowOf_below (rowOf_below RA_y.out B.out) hW) (by have := B_d.out; omega) (by have := B_y.out; omega)) hW)
  have K_q := Lib.hid (fun (W : World) (hW : Below W0.heap.size W0 W) (vv uu : Value) (hr : RowOf iV W vv (limI (x * e))) (hs : RowOf iV W uu (limI (d * y))) => pre_rat ((by have h := spec_low SS vv (x * e) uu (d * y) W hr hs P1.out P2.out; rw [HE.out.1, HE.out.2] at h; exact h)) hW)
  have c0_x := (D_x.out.below BB.out).c0
  have c1_x := (D_x.out.below BB.out).c1
  have c2_x := (D_x.out.below BB.out).c2
  have c0_y := (D_y.out.below BB.out).c0
  have c1_y := (D_y.out.below BB.out).c1
  have c2_y := (D_y.out.below BB.out).c2
  have HS := Lib.hid (show ∀ W : World, Below W0.heap.size W0 W → (W.cell? ⟨w.heap.size, 0, none⟩ = some (.bool b0) ∧ W.cell? ⟨w.heap.size, 1, none⟩ = some (.slice a0 nx c0) ∧ W.cell? ⟨w.heap.size, 2, none⟩ = some (.slice e0 nd f0) ∧ W.cell? ⟨(w.heap.size + 1), 0, none⟩ = some (.bool b1) ∧ W.cell? ⟨(w.heap.size + 1), 1, none⟩ = some (.slice a1 ny c1) ∧ W.cell? ⟨(w.heap.size + 1), 2, none⟩ = some (.slice e1 ne f1)) from fun W hW => ⟨(hW.cell (p := ⟨w.heap.size, 0, none⟩) (D_x.out.below BB.out).lt).trans c0_x, (hW.cell (p := ⟨w.heap.size, 1, none⟩) (D_x.out.below BB.out).lt).trans c1_x, (hW.cell (p := ⟨w.heap.size, 2, none⟩) (D_x.out.below BB.out).lt).trans c2_x, (hW.cell (p := ⟨(w.heap.size + 1), 0, none⟩) (D_y.out.below BB.out).lt).trans c0_y, (hW.cell (p := ⟨(w.heap.size + 1), 1, none⟩) (D_y.out.below BB.out).lt).trans c1_y, (hW.cell (p := ⟨(w.heap.size + 1), 2, none⟩) (D_y.out.below BB.out).lt).trans c2_y⟩)
  have lt_x := (D_x.out.below BB.out).lt
  have lt_y := (D_y.out.below BB.out).lt
  have c0_r := (D_r.out.below BB.out).c0
  have c1_r := (D_r.out.below BB.out).c1
  have c2_r := (D_r.out.below BB.out).c2
  have f0_r := (D_r.out.below BB.out).f 0
  have f1_r := (D_r.out.below BB.out).f 1
  have f2_r := (D_r.out.below BB.out).f 2
  have HF := Lib.hid (show ∀ W : World, Below W0.heap.size W0 W → (W.cell? ⟨(w.heap.size + 1 + 1), 0, none⟩ = some (.bool false) ∧ W.cell? ⟨(w.heap.size + 1 + 1), 1, none⟩ = some (.slice none 0 0) ∧ W.cell? ⟨(w.heap.size + 1 + 1), 2, none⟩ = some (.slice none 0 0) ∧ W.frozen? ⟨(w.heap.size + 1 + 1), 0, none⟩ = false ∧ W.frozen? ⟨(w.heap.size + 1 + 1), 1, none⟩ = false ∧ W.frozen? ⟨(w.heap.size + 1 + 1), 2, none⟩ = false) from fun W hW => ⟨(hW.cell (p := ⟨(w.heap.size + 1 + 1), 0, none⟩) (D_r.out.below BB.out).lt).trans c0_r, (hW.cell (p := ⟨(w.heap.size + 1 + 1), 1, none⟩) (D_r.out.below BB.out).lt).trans c1_r, (hW.cell (p := ⟨(w.heap.size + 1 + 1), 2, none⟩) (D_r.out.below BB.out).lt).trans c2_r, (hW.frozen (p := ⟨(w.heap.size + 1 + 1), 0, none⟩) (D_r.out.below BB.out).lt).trans f0_r, (hW.frozen (p := ⟨(w.heap.size + 1 + 1), 1, none⟩) (D_r.out.below BB.out).lt).trans f1_r, (hW.frozen (p := ⟨(w.heap.size + 1 + 1), 2, none⟩) (D_r.out.below BB.out).lt).trans f2_r⟩)
  go_region_held3 (fun w' => w'.cell? ⟨w.heap.size, 0, none⟩ = some (.bool b0) ∧ w'.cell? ⟨w.heap.size, 1, none⟩ = some (.slice a0 nx c0) ∧ w'.cell? ⟨w.heap.size, 2, none⟩ = some (.slice e0 nd f0) ∧ w'.cell? ⟨(w.heap.size + 1), 0, none⟩ = some (.bool b1) ∧ w'.cell? ⟨(w.heap.size + 1), 1, none⟩ = some (.slice a1 ny c1) ∧ w'.cell? ⟨(w.heap.size + 1), 2, none⟩ = some (.slice e1 ne f1)) (first | exact HS.out _ (by first | with_reducible exact Below.refl _ _ | with_reducible exact (Below.refl _ _).drew | with_reducible exact bb_a | with_reducible exact bb_b | with_reducible exact bb_q | fail) | exact ⟨(cell_far3 (show w.heap.size ≠ (w.heap.size + 1 + 1) from by omega) _ _ _).trans ((HS.out _ (by first | with_reducible exact Below.refl _ _ | with_reducible exact (Below.refl _ _).drew | with_reducible exact bb_a | with_reducible exact bb_b | with_reducible exact bb_q | fail)).1), (cell_far3 (show w.heap.size ≠ (w.heap.size + 1 + 1) from by omega) _ _ _).trans ((HS.out _ (by first | with_reducible exact Below.refl _ _ | with_reducible exact (Below.refl _ _).drew | with_reducible exact bb_a | with_reducible exact bb_b | with_reducible exact bb_q | fail)).2.1), (cell_far3 (show w.heap.size ≠ (w.heap.size + 1 + 1) from by omega) _ _ _).trans ((HS.out _ (by first | with_reducible exact Below.refl _ _ | with_reducible exact (Below.refl _ _).drew | with_reducible exact bb_a | with_reducible exact bb_b | with_reducible exact bb_q | fail)).2.2.1), (cell_far3 (show (w.heap.size + 1) ≠ (w.heap.size + 1 + 1) from by omega) _ _ _).trans ((HS.out _ (by first | with_reducible exact Below.refl _ _ | with_reducible exact (Below.refl _ _).drew | with_reducible exact bb_a | with_reducible exact bb_b | with_reducible exact bb_q | fail)).2.2.2.1), (cell_far3 (show (w.heap.size + 1) ≠ (w.heap.size + 1 + 1) from by omega) _ _ _).trans ((HS.out _ (by first | with_reducible exact Below.refl _ _ | with_reducible exact (Below.refl _ _).drew | with_reducible exact bb_a | with_reducible exact bb_b | with_reducible exact bb_q | fail)).2.2.2.2.1), (cell_far3 (show (w.heap.size + 1) ≠ (w.heap.size + 1 + 1) from by omega) _ _ _).trans ((HS.out _ (by first | with_reducible exact Below.refl _ _ | with_reducible exact (Below.refl _ _).drew | with_reducible exact bb_a | with_reducible exact bb_b | with_reducible exact bb_q | fail)).2.2.2.2.2)⟩)
    (first
      | (go_at_call 126; refine (K_q.out _ (by first | with_reducible exact Below.refl _ _ | with_reducible exact (Below.refl _ _).drew | with_reducible exact bb_a | with_reducible exact bb_b | with_reducible exact bb_q | fail) _ _ (by first | with_reducible exact o_a.row) (by first | with_reducible exact o_b.row)).mono ?_; rintro e w_q ⟨v_q, d_q, rfl, u_q, lo_q, bw_q, bb_q⟩; obtain ⟨a_q, c_q, e_q, f_q, rfl, rfl⟩ := u_q.slices; (try first | with_reducible (have o_a := o_a.below bw_q)); (try first | with_reducible (have o_b := o_b.below bw_q)); obtain ⟨s0, s1, s2, t0, t1, t2⟩ := HF.out _ bb_q)
      | (go_at_call 127; with_reducible refine (K_b.out _ (by first | with_reducible exact Below.refl _ _ | with_reducible exact (Below.refl _ _).drew | with_reducible exact bb_a | with_reducible exact bb_b | with_reducible exact bb_q | fail)).mono ?_; rintro e w_b ⟨v_b, rfl, o_b, lo_b, bw_b, bb_b⟩; obtain ⟨a_b, c_b, rfl⟩ := o_b.slice; (try first | with_reducible (have o_a := o_a.below bw_b)); (try first | with_reducible (have u_q := u_q.below bw_b)); obtain ⟨s0, s1, s2, t0, t1, t2⟩ := HF.out _ bb_b)
      | (go_at_call 127; with_reducible refine (K_a.out _ (by first | with_reducible exact Below.refl _ _ | with_reducible exact (Below.refl _ _).drew | with_reducible exact bb_a | with_reducible exact bb_b | with_reducible exact bb_q | fail)).mono ?_; rintro e w_a ⟨v_a, rfl, o_a, lo_a, bw_a, bb_a⟩; obtain ⟨a_a, c_a, rfl⟩ := o_a.slice; (try first | with_reducible (have o_b := o_b.below bw_a)); (try first | with_reducible (have u_q := u_q.below bw_a)); obtain ⟨s0, s1, s2, t0, t1, t2⟩ := HF.out _ bb_a))
  all_goals (have D9 := D_r.out.below (BB.out.trans (bb_q.mono BB.out.size)); obtain ⟨e1, e2⟩ := rat_end (b' := mkB SS XX DD) (B.out.trans (bb_q.mono B.out.size)) D9 (OwnR.base (B' := W0.heap.size) u_q BB.out.size) (by decide) (by have := SZ.out; omega) (by omega) (.slice a_q (mkZ XX DD).length c_q) (.slice e_q (mkD XX DD).length f_q); have D8 := Rx.set3 (b' := mkB SS XX DD) (v' := .slice a_q (mkZ XX DD).length c_q) (d' := .slice e_q (mkD XX DD).length f_q) D9; have hc0 := D8.c0; have hc1 := D8.c1; have hc2 := D8.c2; go_wp2; exact bodyPost_ret (v := .agg #[.bool (mkB SS XX DD), .slice a_q (mkZ XX DD).length c_q, .slice e_q (mkD XX DD).length f_q]) (by simp [results, Tryz.results123, go_sem, hc0, hc1, hc2]) rfl ⟨_, _, rfl, e1, e2⟩)

theorem spec_divF (f g : Fr) (hf : Small f) (hg : Small g) (v d v' d' : Value) (w : World) (h0 : RowR w v f.mag d f.den) (h1 : RowR w v' g.mag d' g.den) :
    Calls Tryz.prog 123 #[.agg #[.bool f.neg, v, d], .agg #[.bool g.neg, v', d']] w fun r w' => ∃ x y, r = .returned (.agg #[.bool (divX f g).neg, x, y]) ∧ OwnR w' w.heap.size x (divX f g).mag y (divX f g).den ∧ Below w.heap.size w w' := by
  obtain ⟨b, m, e⟩ := f
  obtain ⟨b', m', e'⟩ := g
  obtain ⟨x, k, rfl, rfl, hx, hk⟩ := hf
  obtain ⟨x', k', rfl, rfl, hx', hk'⟩ := hg
  simp only [divX, natI_limI]
  exact spec_divA b v x d k b' v' x' d' k' w h0 h1 hx hk hx' hk'
theorem spec_nilF (f : Fr) (v d : Value) (w : World) (h : RowR w v f.mag d f.den) :
    Calls Tryz.prog 122 #[.agg #[.bool f.neg, v, d]] w fun r w' => r = .returned (.bool (nilF f)) ∧ Below w.heap.size w w' := spec_nilR f.neg v f.mag d f.den w h
theorem impl_isZero (f : Fr) (v d : Value) (w : World) (h : RowR w v f.mag d f.den) :
    Calls Tryz.prog 139 #[.agg #[.bool f.neg, v, d]] w fun r w' => r = .returned (.bool (nilF f)) ∧ Below w.heap.size w w' := by
  obtain ⟨a, c, e, k, rfl, rfl, h1, h2⟩ := rowR_len h
  go_enter Tryz.func139, Tryz.ntmps139
  go_wp2
  go_ret
  exact ⟨congrArg (fun q => Ending.returned (Value.bool q)) (Bool.eq_iff_iff.2 (by simp [nilF])), (Below.refl w.heap.size w).alloc (Nat.le_refl _) _⟩
theorem impl_invF (f : Fr) (v d : Value) (w : World) (h : RowR w v f.mag d f.den) :
    Calls Tryz.prog 164 #[.agg #[.bool f.neg, v, d]] w fun r w' => r = .returned (.agg #[.bool (invX f).neg, d, v]) ∧ Below w.heap.size w w' := by
  obtain ⟨a, c, e, k, rfl, rfl, h1, h2⟩ := rowR_len h
  exact impl_inverse _ _ _ _ _ _ _ w

theorem small_neg {f : Fr} (h : Small f) : Small (negX f) := by
  obtain ⟨x, d, h1, h2, h3, h4⟩ := h
  exact ⟨x, d, h1, h2, h3, h4⟩
set_option maxRecDepth 100000 in
set_option maxHeartbeats 2000000 in
theorem spec_subS (f g : Fr) (hf : Small f) (hg : Small g) (v d v' d' : Value) (w : World) (h0 : RowR w v f.mag d f.den) (h1 : RowR w v' g.mag d' g.den) :
    Calls Tryz.prog 155 #[.agg #[.bool f.neg, v, d], .agg #[.bool g.neg, v', d']] w fun r w' => ∃ x y, r = .returned (.agg #[.bool (subX f g).neg, x, y]) ∧ OwnR w' w.heap.size x (subX f g).mag y (subX f g).den ∧ Below w.heap.size w w' := by
  have H0 := Lib.hid h0
  have H1 := Lib.hid h1
  obtain ⟨a0, c0, e0, k0, rfl, rfl⟩ := fr_forms h0
  obtain ⟨a1, c1, e1, k1, rfl, rfl⟩ := fr_forms h1
  clear h0 h1
  have KN := Lib.hid (spec_negF g hg)
  have KA := Lib.hid (spec_addF f (negX g) hf (small_neg hg))
  clear hf hg
  unfold subX
  obtain ⟨nx, hnx⟩ : ∃ n, f.mag.length = n := ⟨_, rfl⟩
  rw [hnx] at H0 ⊢
  clear hnx
  obtain ⟨nd, hnd⟩ : ∃ n, f.den.length = n := ⟨_, rfl⟩
  rw [hnd] at H0 ⊢
  clear hnd
  obtain ⟨ny, hny⟩ : ∃ n, g.mag.length = n := ⟨_, rfl⟩
  rw [hny] at H1 ⊢
  clear hny
  obtain ⟨ne, hne⟩ : ∃ n, g.den.length = n := ⟨_, rfl⟩
  rw [hne] at H1 ⊢
  clear hne
  go_enter Tryz.func155, Tryz.ntmps155
  go_wp2_with fail
  obtain ⟨W0, hW0⟩ : ∃ x, x = (((w.alloc (.cells #[.bool f.neg, .slice a0 nx c0, .slice e0 nd k0] 34)).alloc (.cells #[.bool g.neg, .slice a1 ny c1, .slice e1 ne k1] 34)).alloc (.cells #[.bool false, .slice none 0 0, .slice none 0 0] 34)) := ⟨_, rfl⟩
  have B := Lib.hid (show Below w.heap.size w W0 by rw [hW0]; exact ((((Below.refl _ _).alloc (Nat.le_refl _) _).alloc (by simp) _).alloc (by simp; omega) _))
  have D_x := Lib.hid (rx_at (show Rx W0 _ 34 (f.neg) (.slice a0 nx c0) (.slice e0 nd k0) by rw [hW0]; exact ((Rx.new _ _ _ _ _).alloc _).alloc _) (show w.heap.size = _ by simp))
  have D_y := Lib.hid (rx_at (show Rx W0 _ 34 (g.neg) (.slice a1 ny c1) (.slice e1 ne k1) by rw [hW0]; exact (Rx.new _ _ _ _ _).alloc _) (show (w.heap.size + 1) = _ by simp))
  have D_r := Lib.hid (rx_at (show Rx W0 _ 34 (false) (.slice none 0 0) (.slice none 0 0) by rw [hW0]; exact Rx.new _ _ _ _ _) (show (w.heap.size + 1 + 1) = _ by simp))
  have SZ := Lib.hid (show W0.heap.size = w.heap.size + 1 + 1 + 1 by rw [hW0]; simp)
  rw [← hW0]
  clear hW0
  have BB := Lib.hid (Below.refl W0.heap.size W0)
  have K_n := Lib.hid (fun (W : World) (hW : Below W0.heap.size W0 W) => pre_rat (KN.out _ _ W ((H1.out.below B.out).below hW)) hW)
  have K_q := Lib.hid (fun (W : World) (hW : Below W0.heap.size W0 W) (vv dd : Value) (hr : RowR W vv (negX g).mag dd (negX g).den) => pre_rat (KA.out _ _ vv dd W ((H0.out.below B.out).below hW) hr) hW)
  have c0_x := (D_x.out.below BB.out).c0
  have c1_x := (D_x.out.below BB.out).c1
  have c2_x := (D_x.out.below BB.out).c2
  have c0_y := (D_y.out.below BB.out).c0
  have c1_y := (D_y.out.below BB.out).c1
  have c2_y := (D_y.out.below BB.out).c2
  have HS := Lib.hid (show ∀ W : World, Below W0.heap.size W0 W → (W.cell? ⟨w.heap.size, 0, none⟩ = some (.bool f.neg) ∧ W.cell? ⟨w.heap.size, 1, none⟩ = some (.slice a0 nx c0) ∧ W.cell? ⟨w.heap.size, 2, none⟩ = some (.slice e0 nd k0) ∧ W.cell? ⟨(w.heap.size + 1), 0, none⟩ = some (.bool g.neg) ∧ W.cell? ⟨(w.heap.size + 1), 1, none⟩ = some (.slice a1 ny c1) ∧ W.cell? ⟨(w.heap.size + 1), 2, none⟩ = some (.slice e1 ne k1)) from fun W hW => ⟨(hW.cell (p := ⟨w.heap.size, 0, none⟩) (D_x.out.below BB.out).lt).trans c0_x, (hW.cell (p := ⟨w.heap.size, 1, none⟩) (D_x.out.below BB.out).lt).trans c1_x, (hW.cell (p := ⟨w.heap.size, 2, none⟩) (D_x.out.below BB.out).lt).trans c2_x, (hW.cell (p := ⟨(w.heap.size + 1), 0, none⟩) (D_y.out.below BB.out).lt).trans c0_y, (hW.cell (p := ⟨(w.heap.size + 1), 1, none⟩) (D_y.out.below BB.out).lt).trans c1_y, (hW.cell (p := ⟨(w.heap.size + 1), 2, none⟩) (D_y.out.below BB.out).lt).trans c2_y⟩)
  have lt_x := (D_x.out.below BB.out).lt
  have lt_y := (D_y.out.below BB.out).lt
  have c0_r := (D_r.out.below BB.out).c0
  have c1_r := (D_r.out.below BB.out).c1
  have c2_r := (D_r.out.below BB.out).c2
  have f0_r := (D_r.out.below BB.out).f 0
  have f1_r := (D_r.out.below BB.out).f 1
  have f2_r := (D_r.out.below BB.out).f 2
  have HF := Lib.hid (show ∀ W : World, Below W0.heap.size W0 W → (W.cell? ⟨(w.heap.size + 1 + 1), 0, none⟩ = some (.bool false) ∧ W.cell? ⟨(w.heap.size + 1 + 1), 1, none⟩ = some (.slice none 0 0) ∧ W.cell? ⟨(w.heap.size + 1 + 1), 2, none⟩ = some (.slice none 0 0) ∧ W.frozen? ⟨(w.heap.size + 1 + 1), 0, none⟩ = false ∧ W.frozen? ⟨(w.heap.size + 1 + 1), 1, none⟩ = false ∧ W.frozen? ⟨(w.heap.size + 1 + 1), 2, none⟩ = false) from fun W hW => ⟨(hW.cell (p := ⟨(w.heap.size + 1 + 1), 0, none⟩) (D_r.out.below BB.out).lt).trans c0_r, (hW.cell (p := ⟨(w.heap.size + 1 + 1), 1, none⟩) (D_r.out.below BB.out).lt).trans c1_r, (hW.cell (p := ⟨(w.heap.size + 1 + 1), 2, none⟩) (D_r.out.below BB.out).lt).trans c2_r, (hW.frozen (p := ⟨(w.heap.size + 1 + 1), 0, none⟩) (D_r.out.below BB.out).lt).trans f0_r, (hW.frozen (p := ⟨(w.heap.size + 1 + 1), 1, none⟩) (D_r.out.below BB.out).lt).trans f1_r, (hW.frozen (p := ⟨(w.heap.size + 1 + 1), 2, none⟩) (D_r.out.below BB.out).lt).trans f2_r⟩)
  go_region_held3 (fun w' => w'.cell? ⟨w.heap.size, 0, none⟩ = some (.bool f.neg) ∧ w'.cell? ⟨w.heap.size, 1, none⟩ = some (.slice a0 nx c0) ∧ w'.cell? ⟨w.heap.size, 2, none⟩ = some (.slice e0 nd k0) ∧ w'.cell? ⟨(w.heap.size + 1), 0, none⟩ = some (.bool g.neg) ∧ w'.cell? ⟨(w.heap.size + 1), 1, none⟩ = some (.slice a1 ny c1) ∧ w'.cell? ⟨(w.heap.size + 1), 2, none⟩ = some (.slice e1 ne k1)) (first | exact HS.out _ (by first | with_reducible exact Below.refl _ _ | with_reducible exact (Below.refl _ _).drew | with_reducible exact bb_n | with_reducible exact bb_q | fail) | exact ⟨(cell_far3 (show w.heap.size ≠ (w.heap.size + 1 + 1) from by omega) _ _ _).trans ((HS.out _ (by first | with_reducible exact Below.refl _ _ | with_reducible exact (Below.refl _ _).drew | with_reducible exact bb_n | with_reducible exact bb_q | fail)).1), (cell_far3 (show w.heap.size ≠ (w.heap.size + 1 + 1) from by omega) _ _ _).trans ((HS.out _ (by first | with_reducible exact Below.refl _ _ | with_reducible exact (Below.refl _ _).drew | with_reducible exact bb_n | with_reducible exact bb_q | fail)).2.1), (cell_far3 (show w.heap.size ≠ (w.heap.size + 1 + 1) from by omega) _ _ _).trans ((HS.out _ (by first | with_reducible exact Below.refl _ _ | with_reducible exact (Below.refl _ _).drew | with_reducible exact bb_n | with_reducible exact bb_q | fail)).2.2.1), (cell_far3 (show (w.heap.size + 1) ≠ (w.heap.size + 1 + 1) from by omega) _ _ _).trans ((HS.out _ (by first | with_reducible exact Below.refl _ _ | with_reducible exact (Below.refl _ _).drew | with_reducible exact bb_n | with_reducible exact bb_q | fail)).2.2.2.1), (cell_far3 (show (w.heap.size + 1) ≠ (w.heap.size + 1 + 1) from by omega) _ _ _).trans ((HS.out _ (by first | with_reducible exact Below.refl _ _ | with_reducible exact (Below.refl _ _).drew | with_reducible exact bb_n | with_reducible exact bb_q | fail)).2.2.2.2.1), (cell_far3 (show (w.heap.size + 1) ≠ (w.heap.size + 1 + 1) from by omega) _ _ _).trans ((HS.out _ (by first | with_reducible exact Below.refl _ _ | with_reducible exact (Below.refl _ _).drew | with_reducible exact bb_n | with_reducible exact bb_q | fail)).2.2.2.2.2)⟩)
    (first
      | (go_at_call 178; refine (K_q.out _ (by first | with_reducible exact Below.refl _ _ | with_reducible exact (Below.refl _ _).drew | with_reducible exact bb_n | with_reducible exact bb_q | fail) _ _ (by first | with_reducible exact u_n.row)).mono ?_; rintro e w_q ⟨v_q, d_q, rfl, u_q, lo_q, bw_q, bb_q⟩; obtain ⟨a_q, c_q, e_q, f_q, rfl, rfl⟩ := u_q.slices; (try first | with_reducible (have u_n := u_n.below bw_q)); obtain ⟨s0, s1, s2, t0, t1, t2⟩ := HF.out _ bb_q)
      | (go_at_call 95; refine (K_n.out _ (by first | with_reducible exact Below.refl _ _ | with_reducible exact (Below.refl _ _).drew | with_reducible exact bb_n | with_reducible exact bb_q | fail)).mono ?_; rintro e w_n ⟨v_n, d_n, rfl, u_n, lo_n, bw_n, bb_n⟩; obtain ⟨a_n, c_n, e_n, f_n, rfl, rfl⟩ := u_n.slices; (try first | with_reducible (have u_q := u_q.below bw_n)); obtain ⟨s0, s1, s2, t0, t1, t2⟩ := HF.out _ bb_n))
  all_goals (have D9 := D_r.out.below (BB.out.trans (bb_q.mono BB.out.size)); obtain ⟨e1, e2⟩ := rat_end (b' := (addX f (negX g)).neg) (B.out.trans (bb_q.mono B.out.size)) D9 (OwnR.base (B' := W0.heap.size) u_q BB.out.size) (by decide) (by have := SZ.out; omega) (by omega) (.slice a_q (addX f (negX g)).mag.length c_q) (.slice e_q (addX f (negX g)).den.length f_q); have D8 := Rx.set3 (b' := (addX f (negX g)).neg) (v' := .slice a_q (addX f (negX g)).mag.length c_q) (d' := .slice e_q (addX f (negX g)).den.length f_q) D9; have hc0 := D8.c0; have hc1 := D8.c1; have hc2 := D8.c2; go_wp2; exact bodyPost_ret (v := .agg #[.bool ((addX f (negX g)).neg), .slice a_q (addX f (negX g)).mag.length c_q, .slice e_q (addX f (negX g)).den.length f_q]) (by simp [results, Tryz.results155, go_sem, hc0, hc1, hc2]) rfl ⟨_, _, rfl, e1, e2⟩)

end Go.Proofs.YtlepgkkpopjgoaaGreat
