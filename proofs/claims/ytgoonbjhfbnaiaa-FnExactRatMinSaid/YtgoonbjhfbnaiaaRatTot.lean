/- The running total and its operations. -/
import Derived.Test.YtgoonbjhfbnaiaaRatTot0
namespace Go.Proofs.Ytgoonbjhfbnaiaa
open Go.RowKit Go.WideShapes Go.ChangeShapes
set_option linter.unusedVariables false
set_option linter.unusedSimpArgs false


set_option maxRecDepth 100000 in
set_option maxHeartbeats 2000000 in
theorem impl_totAdd (p : Nat) (b0 : Bool) (v0 : Value) (x : Nat) (d0 : Value) (d : Nat) (b1 : Bool) (v1 : Value) (y : Nat) (d1 : Value) (e : Nat) (w : World) (D : Rx w p 85 b0 v0 d0) (h0 : RowR w v0 (limI x) d0 (limI d)) (h1 : RowR w v1 (limI y) d1 (limI e)) (hx : x < pw 24) (hd : d < pw 24) (hy : y < pw 24) (he : e < pw 24) (hd0 : 0 < d) (he0 : 0 < e) (g0 : Nat.gcd x d = 1) (g1 : Nat.gcd y e = 1) (n0 : b0 = true → 0 < x) (n1 : b1 = true → 0 < y) :
    Calls Try.prog 79 #[.pointer (some ⟨p, 0, none⟩), .agg #[.bool b1, v1, d1]] w fun r w' => (∃ q, r = .returned q) ∧ (∃ v dd, Rx w' p 85 (mkB (sgAddB b0 (x * e) b1 (y * d)) (lowX (sgAddN b0 (x * e) b1 (y * d)) (d * e)) (lowD (sgAddN b0 (x * e) b1 (y * d)) (d * e))) v dd ∧ OwnR w' w.heap.size v (mkZ (lowX (sgAddN b0 (x * e) b1 (y * d)) (d * e)) (lowD (sgAddN b0 (x * e) b1 (y * d)) (d * e))) dd (mkD (lowX (sgAddN b0 (x * e) b1 (y * d)) (d * e)) (lowD (sgAddN b0 (x * e) b1 (y * d)) (d * e)))) ∧ w.grownBy w' (some p) := by
  have CH := Lib.hid (And.intro hx (And.intro hd (And.intro hy (And.intro he (And.intro hd0 (And.intro he0 (And.intro g0 (And.intro g1 (And.intro n0 n1)))))))))
  have HP := Lib.hid D.lt
  have HD := Lib.hid D
  have H0 := Lib.hid h0
  have H1 := Lib.hid h1
  clear hx hd hy he hd0 he0 g0 g1 n0 n1 D
  have RA_x := Lib.hid h0.1
  have RA_d := Lib.hid h0.2
  obtain ⟨⟨a0, c0, rfl, z1, z2, z3⟩, ⟨e0, f0, rfl, z4, z5, z6⟩⟩ := h0
  clear z1 z2 z3 z4 z5 z6
  have RA_y := Lib.hid h1.1
  have RA_e := Lib.hid h1.2
  obtain ⟨⟨a1, c1, rfl, z1, z2, z3⟩, ⟨e1, f1, rfl, z4, z5, z6⟩⟩ := h1
  clear z1 z2 z3 z4 z5 z6
  have L_x := Lib.hid (limI_length x)
  rw [limI_length] at RA_x
  try rw [limI_length x]
  obtain ⟨nx, hnx⟩ : ∃ n, nlen x = n := ⟨_, rfl⟩
  rw [hnx] at RA_x L_x
  try rw [hnx]
  have N_x := Lib.hid hnx
  clear hnx
  have L_d := Lib.hid (limI_length d)
  rw [limI_length] at RA_d
  try rw [limI_length d]
  obtain ⟨nd, hnd⟩ : ∃ n, nlen d = n := ⟨_, rfl⟩
  rw [hnd] at RA_d L_d
  try rw [hnd]
  have N_d := Lib.hid hnd
  clear hnd
  have L_y := Lib.hid (limI_length y)
  rw [limI_length] at RA_y
  try rw [limI_length y]
  obtain ⟨ny, hny⟩ : ∃ n, nlen y = n := ⟨_, rfl⟩
  rw [hny] at RA_y L_y
  try rw [hny]
  have N_y := Lib.hid hny
  clear hny
  have L_e := Lib.hid (limI_length e)
  rw [limI_length] at RA_e
  try rw [limI_length e]
  obtain ⟨ne, hne⟩ : ∃ n, nlen e = n := ⟨_, rfl⟩
  rw [hne] at RA_e L_e
  try rw [hne]
  have N_e := Lib.hid hne
  clear hne
  rw [L_x.out, L_d.out] at HD H0
  rw [L_y.out, L_e.out] at H1
  obtain ⟨SS, hSS⟩ : ∃ s, (sgAddB b0 (x * e) b1 (y * d)) = s := ⟨_, rfl⟩
  obtain ⟨XX, hXX⟩ : ∃ s, (lowX (sgAddN b0 (x * e) b1 (y * d)) (d * e)) = s := ⟨_, rfl⟩
  obtain ⟨DD, hDD⟩ : ∃ s, (lowD (sgAddN b0 (x * e) b1 (y * d)) (d * e)) = s := ⟨_, rfl⟩
  rw [hSS, hXX, hDD]
  have HE := Lib.hid (And.intro hSS (And.intro hXX hDD))
  clear hSS hXX hDD
  go_enter Try.func79, Try.ntmps79
  go_wp2_with fail
  obtain ⟨W0, hW0⟩ : ∃ x, x = (w.alloc (.cells #[.bool b1, .slice a1 ny c1, .slice e1 ne f1] 31)) := ⟨_, rfl⟩
  have B := Lib.hid (show Below w.heap.size w W0 by rw [hW0]; exact ((Below.refl _ _).alloc (Nat.le_refl _) _))
  have D_y := Lib.hid (rx_at (show Rx W0 _ 31 (b1) (.slice a1 ny c1) (.slice e1 ne f1) by rw [hW0]; exact Rx.new _ _ _ _ _) (show w.heap.size = _ by simp))
  have SZ := Lib.hid (show W0.heap.size = w.heap.size + 1 by rw [hW0]; simp)
  rw [← hW0]
  clear hW0
  have BB := Lib.hid (Below.refl W0.heap.size W0)
  have M_t := Lib.hid (HD.out.below B.out)
  have K_q := Lib.hid (fun (W : World) (hW : Below W0.heap.size W0 W) => pre_rat ((by have h := impl_plusR b0 _ x _ d b1 _ y _ e W (H0.out.below (B.out.trans (hW.mono B.out.size))) (H1.out.below (B.out.trans (hW.mono B.out.size))) CH.out.1 CH.out.2.1 CH.out.2.2.1 CH.out.2.2.2.1 CH.out.2.2.2.2.1 CH.out.2.2.2.2.2.1 CH.out.2.2.2.2.2.2.1 CH.out.2.2.2.2.2.2.2.1 CH.out.2.2.2.2.2.2.2.2.1 CH.out.2.2.2.2.2.2.2.2.2; rw [HE.out.1, HE.out.2.1, HE.out.2.2] at h; exact h)) hW)
  have c0_t := M_t.out.c0
  have c1_t := M_t.out.c1
  have c2_t := M_t.out.c2
  have c0_y := (D_y.out.below BB.out).c0
  have c1_y := (D_y.out.below BB.out).c1
  have c2_y := (D_y.out.below BB.out).c2
  have f0_t := M_t.out.f 0
  have f1_t := M_t.out.f 1
  have f2_t := M_t.out.f 2
  have lt_t := M_t.out.lt
  have HF := Lib.hid (show ∀ W : World, Below W0.heap.size W0 W → Rx W p 85 b0 (.slice a0 nx c0) (.slice e0 nd f0) from fun W hW => M_t.out.below hW)
  have HY := Lib.hid (show ∀ W : World, Below W0.heap.size W0 W → Rx W w.heap.size 31 b1 (.slice a1 ny c1) (.slice e1 ne f1) from fun W hW => D_y.out.below (BB.out.trans (hW.mono BB.out.size)))
  go_region_with (first | (go_at_call 108; refine (K_q.out _ (by first | with_reducible exact Below.refl _ _ | with_reducible exact (Below.refl _ _).drew | with_reducible exact bb_q)).mono ?_; rintro e w_q ⟨v_q, d_q, rfl, u_q, lo_q, bw_q, bb_q⟩; obtain ⟨a_q, c_q, e_q, f_q, rfl, rfl⟩ := u_q.slices; have D9 := HF.out _ bb_q; have s0 := D9.c0; have s1 := D9.c1; have s2 := D9.c2; have t0 := D9.f 0; have t1 := D9.f 1; have t2 := D9.f 2; have Y9 := HY.out _ bb_q; have q0 := Y9.c0; have q1 := Y9.c1; have q2 := Y9.c2))
  all_goals (have G9 := grownBy_set3 (p := p) (B.out.trans (bb_q.mono B.out.size)) (.bool (mkB SS XX DD)) (.slice a_q (mkZ XX DD).length c_q) (.slice e_q (mkD XX DD).length f_q); have D8 := Rx.set3 (b' := mkB SS XX DD) (v' := .slice a_q (mkZ XX DD).length c_q) (d' := .slice e_q (mkD XX DD).length f_q) D9; have O8 := u_q.set3 (b' := mkB SS XX DD) D9 (by decide) (.slice a_q (mkZ XX DD).length c_q) (.slice e_q (mkD XX DD).length f_q); go_wp2; go_end0; exact ⟨⟨_, rfl⟩, ⟨_, _, D8, O8.base (by have := SZ.out; omega)⟩, G9⟩)


set_option maxRecDepth 100000 in
set_option maxHeartbeats 2000000 in
theorem impl_totMul (p : Nat) (b0 : Bool) (v0 : Value) (x : Nat) (d0 : Value) (d : Nat) (b1 : Bool) (v1 : Value) (y : Nat) (d1 : Value) (e : Nat) (w : World) (D : Rx w p 85 b0 v0 d0) (h0 : RowR w v0 (limI x) d0 (limI d)) (h1 : RowR w v1 (limI y) d1 (limI e)) (hx : x < pw 24) (hd : d < pw 24) (hy : y < pw 24) (he : e < pw 24) (hd0 : 0 < d) (he0 : 0 < e) (g0 : Nat.gcd x d = 1) (g1 : Nat.gcd y e = 1) (n0 : b0 = true → 0 < x) (n1 : b1 = true → 0 < y) :
    Calls Try.prog 84 #[.pointer (some ⟨p, 0, none⟩), .agg #[.bool b1, v1, d1]] w fun r w' => (∃ q, r = .returned q) ∧ (∃ v dd, Rx w' p 85 (mkB (!(b0 == b1)) (lowX (x * y) (d * e)) (lowD (x * y) (d * e))) v dd ∧ OwnR w' w.heap.size v (mkZ (lowX (x * y) (d * e)) (lowD (x * y) (d * e))) dd (mkD (lowX (x * y) (d * e)) (lowD (x * y) (d * e)))) ∧ w.grownBy w' (some p) := by
  have CH := Lib.hid (And.intro hx (And.intro hd (And.intro hy (And.intro he (And.intro hd0 (And.intro he0 (And.intro g0 (And.intro g1 (And.intro n0 n1)))))))))
  have HP := Lib.hid D.lt
  have HD := Lib.hid D
  have H0 := Lib.hid h0
  have H1 := Lib.hid h1
  clear hx hd hy he hd0 he0 g0 g1 n0 n1 D
  have RA_x := Lib.hid h0.1
  have RA_d := Lib.hid h0.2
  obtain ⟨⟨a0, c0, rfl, z1, z2, z3⟩, ⟨e0, f0, rfl, z4, z5, z6⟩⟩ := h0
  clear z1 z2 z3 z4 z5 z6
  have RA_y := Lib.hid h1.1
  have RA_e := Lib.hid h1.2
  obtain ⟨⟨a1, c1, rfl, z1, z2, z3⟩, ⟨e1, f1, rfl, z4, z5, z6⟩⟩ := h1
  clear z1 z2 z3 z4 z5 z6
  have L_x := Lib.hid (limI_length x)
  rw [limI_length] at RA_x
  try rw [limI_length x]
  obtain ⟨nx, hnx⟩ : ∃ n, nlen x = n := ⟨_, rfl⟩
  rw [hnx] at RA_x L_x
  try rw [hnx]
  have N_x := Lib.hid hnx
  clear hnx
  have L_d := Lib.hid (limI_length d)
  rw [limI_length] at RA_d
  try rw [limI_length d]
  obtain ⟨nd, hnd⟩ : ∃ n, nlen d = n := ⟨_, rfl⟩
  rw [hnd] at RA_d L_d
  try rw [hnd]
  have N_d := Lib.hid hnd
  clear hnd
  have L_y := Lib.hid (limI_length y)
  rw [limI_length] at RA_y
  try rw [limI_length y]
  obtain ⟨ny, hny⟩ : ∃ n, nlen y = n := ⟨_, rfl⟩
  rw [hny] at RA_y L_y
  try rw [hny]
  have N_y := Lib.hid hny
  clear hny
  have L_e := Lib.hid (limI_length e)
  rw [limI_length] at RA_e
  try rw [limI_length e]
  obtain ⟨ne, hne⟩ : ∃ n, nlen e = n := ⟨_, rfl⟩
  rw [hne] at RA_e L_e
  try rw [hne]
  have N_e := Lib.hid hne
  clear hne
  rw [L_x.out, L_d.out] at HD H0
  rw [L_y.out, L_e.out] at H1
  obtain ⟨SS, hSS⟩ : ∃ s, (!(b0 == b1)) = s := ⟨_, rfl⟩
  obtain ⟨XX, hXX⟩ : ∃ s, (lowX (x * y) (d * e)) = s := ⟨_, rfl⟩
  obtain ⟨DD, hDD⟩ : ∃ s, (lowD (x * y) (d * e)) = s := ⟨_, rfl⟩
  rw [hSS, hXX, hDD]
  have HE := Lib.hid (And.intro hSS (And.intro hXX hDD))
  clear hSS hXX hDD
  go_enter Try.func84, Try.ntmps84
  go_wp2_with fail
  obtain ⟨W0, hW0⟩ : ∃ x, x = (w.alloc (.cells #[.bool b1, .slice a1 ny c1, .slice e1 ne f1] 31)) := ⟨_, rfl⟩
  have B := Lib.hid (show Below w.heap.size w W0 by rw [hW0]; exact ((Below.refl _ _).alloc (Nat.le_refl _) _))
  have D_y := Lib.hid (rx_at (show Rx W0 _ 31 (b1) (.slice a1 ny c1) (.slice e1 ne f1) by rw [hW0]; exact Rx.new _ _ _ _ _) (show w.heap.size = _ by simp))
  have SZ := Lib.hid (show W0.heap.size = w.heap.size + 1 by rw [hW0]; simp)
  rw [← hW0]
  clear hW0
  have BB := Lib.hid (Below.refl W0.heap.size W0)
  have M_t := Lib.hid (HD.out.below B.out)
  have K_q := Lib.hid (fun (W : World) (hW : Below W0.heap.size W0 W) => pre_rat ((by have h := impl_timesR b0 _ x _ d b1 _ y _ e W (H0.out.below (B.out.trans (hW.mono B.out.size))) (H1.out.below (B.out.trans (hW.mono B.out.size))) CH.out.1 CH.out.2.1 CH.out.2.2.1 CH.out.2.2.2.1 CH.out.2.2.2.2.1 CH.out.2.2.2.2.2.1 CH.out.2.2.2.2.2.2.1 CH.out.2.2.2.2.2.2.2.1 CH.out.2.2.2.2.2.2.2.2.1 CH.out.2.2.2.2.2.2.2.2.2; rw [HE.out.1, HE.out.2.1, HE.out.2.2] at h; exact h)) hW)
  have c0_t := M_t.out.c0
  have c1_t := M_t.out.c1
  have c2_t := M_t.out.c2
  have c0_y := (D_y.out.below BB.out).c0
  have c1_y := (D_y.out.below BB.out).c1
  have c2_y := (D_y.out.below BB.out).c2
  have f0_t := M_t.out.f 0
  have f1_t := M_t.out.f 1
  have f2_t := M_t.out.f 2
  have lt_t := M_t.out.lt
  have HF := Lib.hid (show ∀ W : World, Below W0.heap.size W0 W → Rx W p 85 b0 (.slice a0 nx c0) (.slice e0 nd f0) from fun W hW => M_t.out.below hW)
  have HY := Lib.hid (show ∀ W : World, Below W0.heap.size W0 W → Rx W w.heap.size 31 b1 (.slice a1 ny c1) (.slice e1 ne f1) from fun W hW => D_y.out.below (BB.out.trans (hW.mono BB.out.size)))
  go_region_with (first | (go_at_call 111; refine (K_q.out _ (by first | with_reducible exact Below.refl _ _ | with_reducible exact (Below.refl _ _).drew | with_reducible exact bb_q)).mono ?_; rintro e w_q ⟨v_q, d_q, rfl, u_q, lo_q, bw_q, bb_q⟩; obtain ⟨a_q, c_q, e_q, f_q, rfl, rfl⟩ := u_q.slices; have D9 := HF.out _ bb_q; have s0 := D9.c0; have s1 := D9.c1; have s2 := D9.c2; have t0 := D9.f 0; have t1 := D9.f 1; have t2 := D9.f 2; have Y9 := HY.out _ bb_q; have q0 := Y9.c0; have q1 := Y9.c1; have q2 := Y9.c2))
  all_goals (have G9 := grownBy_set3 (p := p) (B.out.trans (bb_q.mono B.out.size)) (.bool (mkB SS XX DD)) (.slice a_q (mkZ XX DD).length c_q) (.slice e_q (mkD XX DD).length f_q); have D8 := Rx.set3 (b' := mkB SS XX DD) (v' := .slice a_q (mkZ XX DD).length c_q) (d' := .slice e_q (mkD XX DD).length f_q) D9; have O8 := u_q.set3 (b' := mkB SS XX DD) D9 (by decide) (.slice a_q (mkZ XX DD).length c_q) (.slice e_q (mkD XX DD).length f_q); go_wp2; go_end0; exact ⟨⟨_, rfl⟩, ⟨_, _, D8, O8.base (by have := SZ.out; omega)⟩, G9⟩)


set_option maxRecDepth 100000 in
set_option maxHeartbeats 2000000 in
theorem impl_totSub (p : Nat) (b0 : Bool) (v0 : Value) (x : Nat) (d0 : Value) (d : Nat) (b1 : Bool) (v1 : Value) (y : Nat) (d1 : Value) (e : Nat) (w : World) (D : Rx w p 85 b0 v0 d0) (h0 : RowR w v0 (limI x) d0 (limI d)) (h1 : RowR w v1 (limI y) d1 (limI e)) (hx : x < pw 24) (hd : d < pw 24) (hy : y < pw 24) (he : e < pw 24) (hd0 : 0 < d) (he0 : 0 < e) (g0 : Nat.gcd x d = 1) (g1 : Nat.gcd y e = 1) (n0 : b0 = true → 0 < x) (n1 : b1 = true → 0 < y) :
    Calls Try.prog 82 #[.pointer (some ⟨p, 0, none⟩), .agg #[.bool b1, v1, d1]] w fun r w' => (∃ q, r = .returned q) ∧ (∃ v dd, Rx w' p 85 (mkB (sgAddB b0 (x * e) (!b1 && decide (0 < y)) (y * d)) (lowX (sgAddN b0 (x * e) (!b1 && decide (0 < y)) (y * d)) (d * e)) (lowD (sgAddN b0 (x * e) (!b1 && decide (0 < y)) (y * d)) (d * e))) v dd ∧ OwnR w' w.heap.size v (mkZ (lowX (sgAddN b0 (x * e) (!b1 && decide (0 < y)) (y * d)) (d * e)) (lowD (sgAddN b0 (x * e) (!b1 && decide (0 < y)) (y * d)) (d * e))) dd (mkD (lowX (sgAddN b0 (x * e) (!b1 && decide (0 < y)) (y * d)) (d * e)) (lowD (sgAddN b0 (x * e) (!b1 && decide (0 < y)) (y * d)) (d * e)))) ∧ w.grownBy w' (some p) := by
  have CH := Lib.hid (And.intro hx (And.intro hd (And.intro hy (And.intro he (And.intro hd0 (And.intro he0 (And.intro g0 (And.intro g1 (And.intro n0 n1)))))))))
  have HP := Lib.hid D.lt
  have HD := Lib.hid D
  have H0 := Lib.hid h0
  have H1 := Lib.hid h1
  clear hx hd hy he hd0 he0 g0 g1 n0 n1 D
  have RA_x := Lib.hid h0.1
  have RA_d := Lib.hid h0.2
  obtain ⟨⟨a0, c0, rfl, z1, z2, z3⟩, ⟨e0, f0, rfl, z4, z5, z6⟩⟩ := h0
  clear z1 z2 z3 z4 z5 z6
  have RA_y := Lib.hid h1.1
  have RA_e := Lib.hid h1.2
  obtain ⟨⟨a1, c1, rfl, z1, z2, z3⟩, ⟨e1, f1, rfl, z4, z5, z6⟩⟩ := h1
  clear z1 z2 z3 z4 z5 z6
  have L_x := Lib.hid (limI_length x)
  rw [limI_length] at RA_x
  try rw [limI_length x]
  obtain ⟨nx, hnx⟩ : ∃ n, nlen x = n := ⟨_, rfl⟩
  rw [hnx] at RA_x L_x
  try rw [hnx]
  have N_x := Lib.hid hnx
  clear hnx
  have L_d := Lib.hid (limI_length d)
  rw [limI_length] at RA_d
  try rw [limI_length d]
  obtain ⟨nd, hnd⟩ : ∃ n, nlen d = n := ⟨_, rfl⟩
  rw [hnd] at RA_d L_d
  try rw [hnd]
  have N_d := Lib.hid hnd
  clear hnd
  have L_y := Lib.hid (limI_length y)
  rw [limI_length] at RA_y
  try rw [limI_length y]
  obtain ⟨ny, hny⟩ : ∃ n, nlen y = n := ⟨_, rfl⟩
  rw [hny] at RA_y L_y
  try rw [hny]
  have N_y := Lib.hid hny
  clear hny
  have L_e := Lib.hid (limI_length e)
  rw [limI_length] at RA_e
  try rw [limI_length e]
  obtain ⟨ne, hne⟩ : ∃ n, nlen e = n := ⟨_, rfl⟩
  rw [hne] at RA_e L_e
  try rw [hne]
  have N_e := Lib.hid hne
  clear hne
  rw [L_x.out, L_d.out] at HD H0
  rw [L_y.out, L_e.out] at H1
  obtain ⟨SS, hSS⟩ : ∃ s, (sgAddB b0 (x * e) (!b1 && decide (0 < y)) (y * d)) = s := ⟨_, rfl⟩
  obtain ⟨XX, hXX⟩ : ∃ s, (lowX (sgAddN b0 (x * e) (!b1 && decide (0 < y)) (y * d)) (d * e)) = s := ⟨_, rfl⟩
  obtain ⟨DD, hDD⟩ : ∃ s, (lowD (sgAddN b0 (x * e) (!b1 && decide (0 < y)) (y * d)) (d * e)) = s := ⟨_, rfl⟩
  rw [hSS, hXX, hDD]
  have HE := Lib.hid (And.intro hSS (And.intro hXX hDD))
  clear hSS hXX hDD
  go_enter Try.func82, Try.ntmps82
  go_wp2_with fail
  obtain ⟨W0, hW0⟩ : ∃ x, x = (w.alloc (.cells #[.bool b1, .slice a1 ny c1, .slice e1 ne f1] 31)) := ⟨_, rfl⟩
  have B := Lib.hid (show Below w.heap.size w W0 by rw [hW0]; exact ((Below.refl _ _).alloc (Nat.le_refl _) _))
  have D_y := Lib.hid (rx_at (show Rx W0 _ 31 (b1) (.slice a1 ny c1) (.slice e1 ne f1) by rw [hW0]; exact Rx.new _ _ _ _ _) (show w.heap.size = _ by simp))
  have SZ := Lib.hid (show W0.heap.size = w.heap.size + 1 by rw [hW0]; simp)
  rw [← hW0]
  clear hW0
  have BB := Lib.hid (Below.refl W0.heap.size W0)
  have M_t := Lib.hid (HD.out.below B.out)
  have K_o := Lib.hid (fun (W : World) (hW : Below W0.heap.size W0 W) => pre_rat (impl_opposite b1 _ y _ e W (H1.out.below (B.out.trans (hW.mono B.out.size))) CH.out.2.2.1 CH.out.2.2.2.1 CH.out.2.2.2.2.2.2.2.2.2) hW)
  have K_q := Lib.hid (fun (W : World) (hW : Below W0.heap.size W0 W) (vv dv : Value) (hr : RowR W vv (limI y) dv (limI e)) => pre_rat ((by have h := impl_plusR b0 _ x _ d (!b1 && decide (0 < y)) vv y dv e W (H0.out.below (B.out.trans (hW.mono B.out.size))) hr CH.out.1 CH.out.2.1 CH.out.2.2.1 CH.out.2.2.2.1 CH.out.2.2.2.2.1 CH.out.2.2.2.2.2.1 CH.out.2.2.2.2.2.2.1 CH.out.2.2.2.2.2.2.2.1 CH.out.2.2.2.2.2.2.2.2.1 (fun hh => by have := (Bool.and_eq_true_iff.1 hh).2; simpa using this); rw [HE.out.1, HE.out.2.1, HE.out.2.2] at h; exact h)) hW)
  have c0_t := M_t.out.c0
  have c1_t := M_t.out.c1
  have c2_t := M_t.out.c2
  have c0_y := (D_y.out.below BB.out).c0
  have c1_y := (D_y.out.below BB.out).c1
  have c2_y := (D_y.out.below BB.out).c2
  have f0_t := M_t.out.f 0
  have f1_t := M_t.out.f 1
  have f2_t := M_t.out.f 2
  have lt_t := M_t.out.lt
  have HF := Lib.hid (show ∀ W : World, Below W0.heap.size W0 W → Rx W p 85 b0 (.slice a0 nx c0) (.slice e0 nd f0) from fun W hW => M_t.out.below hW)
  have HY := Lib.hid (show ∀ W : World, Below W0.heap.size W0 W → Rx W w.heap.size 31 b1 (.slice a1 ny c1) (.slice e1 ne f1) from fun W hW => D_y.out.below (BB.out.trans (hW.mono BB.out.size)))
  go_region_with (first | (go_at_call 108; refine (K_q.out _ (by first | with_reducible exact Below.refl _ _ | with_reducible exact (Below.refl _ _).drew | with_reducible exact bb_o | with_reducible exact bb_q) _ _ u_o.row).mono ?_; rintro e w_q ⟨v_q, d_q, rfl, u_q, lo_q, bw_q, bb_q⟩; obtain ⟨a_q, c_q, e_q, f_q, rfl, rfl⟩ := u_q.slices; have D9 := HF.out _ bb_q; have s0 := D9.c0; have s1 := D9.c1; have s2 := D9.c2; have t0 := D9.f 0; have t1 := D9.f 1; have t2 := D9.f 2; have Y9 := HY.out _ bb_q; have q0 := Y9.c0; have q1 := Y9.c1; have q2 := Y9.c2) | (go_at_call 81; refine (K_o.out _ (by first | with_reducible exact Below.refl _ _ | with_reducible exact (Below.refl _ _).drew | with_reducible exact bb_o | with_reducible exact bb_q)).mono ?_; rintro e w_o ⟨v_o, d_o, rfl, u_o, lo_o, bw_o, bb_o⟩; obtain ⟨a_o, c_o, e_o, f_o, rfl, rfl⟩ := u_o.slices; have D9 := HF.out _ bb_o; have s0 := D9.c0; have s1 := D9.c1; have s2 := D9.c2; have t0 := D9.f 0; have t1 := D9.f 1; have t2 := D9.f 2; have Y9 := HY.out _ bb_o; have q0 := Y9.c0; have q1 := Y9.c1; have q2 := Y9.c2))
  all_goals (have G9 := grownBy_set3 (p := p) (B.out.trans (bb_q.mono B.out.size)) (.bool (mkB SS XX DD)) (.slice a_q (mkZ XX DD).length c_q) (.slice e_q (mkD XX DD).length f_q); have D8 := Rx.set3 (b' := mkB SS XX DD) (v' := .slice a_q (mkZ XX DD).length c_q) (d' := .slice e_q (mkD XX DD).length f_q) D9; have O8 := u_q.set3 (b' := mkB SS XX DD) D9 (by decide) (.slice a_q (mkZ XX DD).length c_q) (.slice e_q (mkD XX DD).length f_q); go_wp2; go_end0; exact ⟨⟨_, rfl⟩, ⟨_, _, D8, O8.base (by have := SZ.out; omega)⟩, G9⟩)


set_option maxRecDepth 100000 in
set_option maxHeartbeats 2000000 in
theorem impl_totDiv (p : Nat) (b0 : Bool) (v0 : Value) (x : Nat) (d0 : Value) (d : Nat) (b1 : Bool) (v1 : Value) (y : Nat) (d1 : Value) (e : Nat) (w : World) (D : Rx w p 85 b0 v0 d0) (h0 : RowR w v0 (limI x) d0 (limI d)) (h1 : RowR w v1 (limI y) d1 (limI e)) (hx : x < pw 24) (hd : d < pw 24) (hy : y < pw 24) (he : e < pw 24) (hd0 : 0 < d) (he0 : 0 < e) (g0 : Nat.gcd x d = 1) (g1 : Nat.gcd y e = 1) (n0 : b0 = true → 0 < x) (n1 : b1 = true → 0 < y) :
    Calls Try.prog 86 #[.pointer (some ⟨p, 0, none⟩), .agg #[.bool b1, v1, d1]] w fun r w' => (∃ q, r = .returned q) ∧ (∃ v dd, Rx w' p 85 (mkB (!(b0 == b1)) (lowX (x * e) (d * y)) (lowD (x * e) (d * y))) v dd ∧ OwnR w' w.heap.size v (mkZ (lowX (x * e) (d * y)) (lowD (x * e) (d * y))) dd (mkD (lowX (x * e) (d * y)) (lowD (x * e) (d * y)))) ∧ w.grownBy w' (some p) := by
  have CH := Lib.hid (And.intro hx (And.intro hd (And.intro hy (And.intro he (And.intro hd0 (And.intro he0 (And.intro g0 (And.intro g1 (And.intro n0 n1)))))))))
  have HP := Lib.hid D.lt
  have HD := Lib.hid D
  have H0 := Lib.hid h0
  have H1 := Lib.hid h1
  clear hx hd hy he hd0 he0 g0 g1 n0 n1 D
  have RA_x := Lib.hid h0.1
  have RA_d := Lib.hid h0.2
  obtain ⟨⟨a0, c0, rfl, z1, z2, z3⟩, ⟨e0, f0, rfl, z4, z5, z6⟩⟩ := h0
  clear z1 z2 z3 z4 z5 z6
  have RA_y := Lib.hid h1.1
  have RA_e := Lib.hid h1.2
  obtain ⟨⟨a1, c1, rfl, z1, z2, z3⟩, ⟨e1, f1, rfl, z4, z5, z6⟩⟩ := h1
  clear z1 z2 z3 z4 z5 z6
  have L_x := Lib.hid (limI_length x)
  rw [limI_length] at RA_x
  try rw [limI_length x]
  obtain ⟨nx, hnx⟩ : ∃ n, nlen x = n := ⟨_, rfl⟩
  rw [hnx] at RA_x L_x
  try rw [hnx]
  have N_x := Lib.hid hnx
  clear hnx
  have L_d := Lib.hid (limI_length d)
  rw [limI_length] at RA_d
  try rw [limI_length d]
  obtain ⟨nd, hnd⟩ : ∃ n, nlen d = n := ⟨_, rfl⟩
  rw [hnd] at RA_d L_d
  try rw [hnd]
  have N_d := Lib.hid hnd
  clear hnd
  have L_y := Lib.hid (limI_length y)
  rw [limI_length] at RA_y
  try rw [limI_length y]
  obtain ⟨ny, hny⟩ : ∃ n, nlen y = n := ⟨_, rfl⟩
  rw [hny] at RA_y L_y
  try rw [hny]
  have N_y := Lib.hid hny
  clear hny
  have L_e := Lib.hid (limI_length e)
  rw [limI_length] at RA_e
  try rw [limI_length e]
  obtain ⟨ne, hne⟩ : ∃ n, nlen e = n := ⟨_, rfl⟩
  rw [hne] at RA_e L_e
  try rw [hne]
  have N_e := Lib.hid hne
  clear hne
  rw [L_x.out, L_d.out] at HD H0
  rw [L_y.out, L_e.out] at H1
  by_cases h00 : y = 0
  · have hk : okS (lowX (x * e) (d * y)) (lowD (x * e) (d * y)) = false := by rw [h00, Nat.mul_zero]; unfold lowD; rw [Nat.zero_div]; exact okS_zero _
    rw [(mk_no hk _).1, (mk_no hk false).2.1, (mk_no hk false).2.2]
    have hq : ((ny : Int) == 0) = true := by have := L_y.out; rw [h00, limI_zero] at this; simp at this; simp; omega
    clear hk h00
    go_enter Try.func86, Try.ntmps86
    have D9 := HD.out.below ((Below.refl w.heap.size w).alloc (Nat.le_refl _) (.cells #[.bool b1, .slice a1 ny c1, .slice e1 ne f1] 31))
    have s0 := D9.c0; have s1 := D9.c1; have s2 := D9.c2; have t0 := D9.f 0; have t1 := D9.f 1; have t2 := D9.f 2
    have G9 := grownBy_set3 (p := p) ((Below.refl w.heap.size w).alloc (Nat.le_refl _) (.cells #[.bool b1, .slice a1 ny c1, .slice e1 ne f1] 31)) (.bool false) (.slice none 0 0) (.slice none 0 0)
    have D8 := Rx.set3 (b' := false) (v' := .slice none 0 0) (d' := .slice none 0 0) D9
    go_wp2
    exact bodyPost_ret (results_none (by rfl) _ _ _) rfl ⟨⟨_, rfl⟩, ⟨_, _, D8, OwnR.nil _ _⟩, G9⟩
  · have hy0 : 0 < y := by omega
    have HY0 := Lib.hid hy0
    have hq : ((ny : Int) == 0) = false := by have := (nlen_pos_iff y).2 hy0; rw [N_y.out] at this; simp; omega
    clear h00 hy0
    obtain ⟨SS, hSS⟩ : ∃ s, (!(b0 == b1)) = s := ⟨_, rfl⟩
    obtain ⟨XX, hXX⟩ : ∃ s, (lowX (x * e) (d * y)) = s := ⟨_, rfl⟩
    obtain ⟨DD, hDD⟩ : ∃ s, (lowD (x * e) (d * y)) = s := ⟨_, rfl⟩
    rw [hSS, hXX, hDD]
    have HE := Lib.hid (And.intro hSS (And.intro hXX hDD))
    clear hSS hXX hDD
    go_enter Try.func86, Try.ntmps86
    go_wp2_with fail
    obtain ⟨W0, hW0⟩ : ∃ x, x = (w.alloc (.cells #[.bool b1, .slice a1 ny c1, .slice e1 ne f1] 31)) := ⟨_, rfl⟩
    have B := Lib.hid (show Below w.heap.size w W0 by rw [hW0]; exact ((Below.refl _ _).alloc (Nat.le_refl _) _))
    have D_y := Lib.hid (rx_at (show Rx W0 _ 31 (b1) (.slice a1 ny c1) (.slice e1 ne f1) by rw [hW0]; exact Rx.new _ _ _ _ _) (show w.heap.size = _ by simp))
    have SZ := Lib.hid (show W0.heap.size = w.heap.size + 1 by rw [hW0]; simp)
    rw [← hW0]
    clear hW0
    have BB := Lib.hid (Below.refl W0.heap.size W0)
    have M_t := Lib.hid (HD.out.below B.out)
    have K_i := Lib.hid (fun (W : World) (hW : Below W0.heap.size W0 W) => pre_plain (impl_inverse b1 a1 ny c1 e1 ne f1 W) hW)
    have K_q := Lib.hid (fun (W : World) (hW : Below W0.heap.size W0 W) => pre_rat ((by have h := impl_timesR b0 _ x _ d b1 _ e _ y W (H0.out.below (B.out.trans (hW.mono B.out.size))) (show RowR W (.slice e1 ne f1) (limI e) (.slice a1 ny c1) (limI y) from ⟨(H1.out.below (B.out.trans (hW.mono B.out.size))).2, (H1.out.below (B.out.trans (hW.mono B.out.size))).1⟩) CH.out.1 CH.out.2.1 CH.out.2.2.2.1 CH.out.2.2.1 CH.out.2.2.2.2.1 HY0.out CH.out.2.2.2.2.2.2.1 (by rw [Nat.gcd_comm]; exact CH.out.2.2.2.2.2.2.2.1) CH.out.2.2.2.2.2.2.2.2.1 (fun _ => CH.out.2.2.2.2.2.1); rw [HE.out.1, HE.out.2.1, HE.out.2.2] at h; exact h)) hW)
    have c0_t := M_t.out.c0
    have c1_t := M_t.out.c1
    have c2_t := M_t.out.c2
    have c0_y := (D_y.out.below BB.out).c0
    have c1_y := (D_y.out.below BB.out).c1
    have c2_y := (D_y.out.below BB.out).c2
    have f0_t := M_t.out.f 0
    have f1_t := M_t.out.f 1
    have f2_t := M_t.out.f 2
    have lt_t := M_t.out.lt
    have HF := Lib.hid (show ∀ W : World, Below W0.heap.size W0 W → Rx W p 85 b0 (.slice a0 nx c0) (.slice e0 nd f0) from fun W hW => M_t.out.below hW)
    have HY := Lib.hid (show ∀ W : World, Below W0.heap.size W0 W → Rx W w.heap.size 31 b1 (.slice a1 ny c1) (.slice e1 ne f1) from fun W hW => D_y.out.below (BB.out.trans (hW.mono BB.out.size)))
    go_region_with (first | (go_at_call 111; refine (K_q.out _ (by first | with_reducible exact Below.refl _ _ | with_reducible exact (Below.refl _ _).drew | with_reducible exact bb_i | with_reducible exact bb_q)).mono ?_; rintro e w_q ⟨v_q, d_q, rfl, u_q, lo_q, bw_q, bb_q⟩; obtain ⟨a_q, c_q, e_q, f_q, rfl, rfl⟩ := u_q.slices; have D9 := HF.out _ bb_q; have s0 := D9.c0; have s1 := D9.c1; have s2 := D9.c2; have t0 := D9.f 0; have t1 := D9.f 1; have t2 := D9.f 2; have Y9 := HY.out _ bb_q; have q0 := Y9.c0; have q1 := Y9.c1; have q2 := Y9.c2) | (go_at_call 112; refine (K_i.out _ (by first | with_reducible exact Below.refl _ _ | with_reducible exact (Below.refl _ _).drew | with_reducible exact bb_i | with_reducible exact bb_q)).mono ?_; rintro e w_i ⟨rfl, bw_i, bb_i⟩; have D9 := HF.out _ bb_i; have s0 := D9.c0; have s1 := D9.c1; have s2 := D9.c2; have t0 := D9.f 0; have t1 := D9.f 1; have t2 := D9.f 2; have Y9 := HY.out _ bb_i; have q0 := Y9.c0; have q1 := Y9.c1; have q2 := Y9.c2))
    all_goals (have G9 := grownBy_set3 (p := p) (B.out.trans (bb_q.mono B.out.size)) (.bool (mkB SS XX DD)) (.slice a_q (mkZ XX DD).length c_q) (.slice e_q (mkD XX DD).length f_q); have D8 := Rx.set3 (b' := mkB SS XX DD) (v' := .slice a_q (mkZ XX DD).length c_q) (d' := .slice e_q (mkD XX DD).length f_q) D9; have O8 := u_q.set3 (b' := mkB SS XX DD) D9 (by decide) (.slice a_q (mkZ XX DD).length c_q) (.slice e_q (mkD XX DD).length f_q); go_wp2; go_end0; exact ⟨⟨_, rfl⟩, ⟨_, _, D8, O8.base (by have := SZ.out; omega)⟩, G9⟩)


set_option maxRecDepth 100000 in
set_option maxHeartbeats 2000000 in
theorem impl_totLess (p : Nat) (b0 : Bool) (v0 : Value) (x : Nat) (d0 : Value) (d : Nat) (b1 : Bool) (v1 : Value) (y : Nat) (d1 : Value) (e : Nat) (w : World) (D : Rx w p 85 b0 v0 d0) (h0 : RowR w v0 (limI x) d0 (limI d)) (h1 : RowR w v1 (limI y) d1 (limI e)) (hx : x < pw 24) (hd : d < pw 24) (hy : y < pw 24) (he : e < pw 24) (hd0 : 0 < d) (he0 : 0 < e) (g0 : Nat.gcd x d = 1) (g1 : Nat.gcd y e = 1) (n0 : b0 = true → 0 < x) (n1 : b1 = true → 0 < y) :
    Calls Try.prog 93 #[.pointer (some ⟨p, 0, none⟩), .agg #[.bool b1, v1, d1]] w fun r w' => (∃ q, r = .returned q) ∧ Rx w' p 85 (if sgCmp b1 (y * d) b0 (x * e) < 0 then b1 else b0) (if sgCmp b1 (y * d) b0 (x * e) < 0 then v1 else v0) (if sgCmp b1 (y * d) b0 (x * e) < 0 then d1 else d0) ∧ w.grownBy w' (some p) := by
  have CH := Lib.hid (And.intro hx (And.intro hd (And.intro hy (And.intro he (And.intro hd0 (And.intro he0 (And.intro g0 (And.intro g1 (And.intro n0 n1)))))))))
  have HP := Lib.hid D.lt
  have HD := Lib.hid D
  have H0 := Lib.hid h0
  have H1 := Lib.hid h1
  clear hx hd hy he hd0 he0 g0 g1 n0 n1 D
  have RA_x := Lib.hid h0.1
  have RA_d := Lib.hid h0.2
  obtain ⟨⟨a0, c0, rfl, z1, z2, z3⟩, ⟨e0, f0, rfl, z4, z5, z6⟩⟩ := h0
  clear z1 z2 z3 z4 z5 z6
  have RA_y := Lib.hid h1.1
  have RA_e := Lib.hid h1.2
  obtain ⟨⟨a1, c1, rfl, z1, z2, z3⟩, ⟨e1, f1, rfl, z4, z5, z6⟩⟩ := h1
  clear z1 z2 z3 z4 z5 z6
  have L_x := Lib.hid (limI_length x)
  rw [limI_length] at RA_x
  try rw [limI_length x]
  obtain ⟨nx, hnx⟩ : ∃ n, nlen x = n := ⟨_, rfl⟩
  rw [hnx] at RA_x L_x
  try rw [hnx]
  have N_x := Lib.hid hnx
  clear hnx
  have L_d := Lib.hid (limI_length d)
  rw [limI_length] at RA_d
  try rw [limI_length d]
  obtain ⟨nd, hnd⟩ : ∃ n, nlen d = n := ⟨_, rfl⟩
  rw [hnd] at RA_d L_d
  try rw [hnd]
  have N_d := Lib.hid hnd
  clear hnd
  have L_y := Lib.hid (limI_length y)
  rw [limI_length] at RA_y
  try rw [limI_length y]
  obtain ⟨ny, hny⟩ : ∃ n, nlen y = n := ⟨_, rfl⟩
  rw [hny] at RA_y L_y
  try rw [hny]
  have N_y := Lib.hid hny
  clear hny
  have L_e := Lib.hid (limI_length e)
  rw [limI_length] at RA_e
  try rw [limI_length e]
  obtain ⟨ne, hne⟩ : ∃ n, nlen e = n := ⟨_, rfl⟩
  rw [hne] at RA_e L_e
  try rw [hne]
  have N_e := Lib.hid hne
  clear hne
  rw [L_x.out, L_d.out] at HD H0
  rw [L_y.out, L_e.out] at H1
  obtain ⟨cm, hcm⟩ : ∃ c, sgCmp b1 (y * d) b0 (x * e) = c := ⟨_, rfl⟩
  rw [hcm]
  have HC := Lib.hid hcm
  clear hcm
  by_cases ht : cm < 0
  · simp only [ht, if_true, if_false]
    go_enter Try.func93, Try.ntmps93
    go_wp2_with fail
    obtain ⟨W0, hW0⟩ : ∃ x, x = (w.alloc (.cells #[.bool b1, .slice a1 ny c1, .slice e1 ne f1] 31)) := ⟨_, rfl⟩
    have B := Lib.hid (show Below w.heap.size w W0 by rw [hW0]; exact ((Below.refl _ _).alloc (Nat.le_refl _) _))
    have D_y := Lib.hid (rx_at (show Rx W0 _ 31 (b1) (.slice a1 ny c1) (.slice e1 ne f1) by rw [hW0]; exact Rx.new _ _ _ _ _) (show w.heap.size = _ by simp))
    have SZ := Lib.hid (show W0.heap.size = w.heap.size + 1 by rw [hW0]; simp)
    rw [← hW0]
    clear hW0
    have BB := Lib.hid (Below.refl W0.heap.size W0)
    have M_t := Lib.hid (HD.out.below B.out)
    have K_q := Lib.hid (fun (W : World) (hW : Below W0.heap.size W0 W) => pre_plain ((by have h := impl_compareR b1 _ y _ e b0 _ x _ d W (H1.out.below (B.out.trans (hW.mono B.out.size))) (H0.out.below (B.out.trans (hW.mono B.out.size))) CH.out.2.2.1 CH.out.2.2.2.1 CH.out.1 CH.out.2.1 CH.out.2.2.2.2.2.1 CH.out.2.2.2.2.1 CH.out.2.2.2.2.2.2.2.1 CH.out.2.2.2.2.2.2.1 CH.out.2.2.2.2.2.2.2.2.2 CH.out.2.2.2.2.2.2.2.2.1; rw [HC.out] at h; exact h)) hW)
    have c0_t := M_t.out.c0
    have c1_t := M_t.out.c1
    have c2_t := M_t.out.c2
    have c0_y := (D_y.out.below BB.out).c0
    have c1_y := (D_y.out.below BB.out).c1
    have c2_y := (D_y.out.below BB.out).c2
    have f0_t := M_t.out.f 0
    have f1_t := M_t.out.f 1
    have f2_t := M_t.out.f 2
    have lt_t := M_t.out.lt
    have HF := Lib.hid (show ∀ W : World, Below W0.heap.size W0 W → Rx W p 85 b0 (.slice a0 nx c0) (.slice e0 nd f0) from fun W hW => M_t.out.below hW)
    have HY := Lib.hid (show ∀ W : World, Below W0.heap.size W0 W → Rx W w.heap.size 31 b1 (.slice a1 ny c1) (.slice e1 ne f1) from fun W hW => D_y.out.below (BB.out.trans (hW.mono BB.out.size)))
    go_region_with (first | (go_at_call 88; refine (K_q.out _ (by first | with_reducible exact Below.refl _ _ | with_reducible exact (Below.refl _ _).drew | with_reducible exact bb_q)).mono ?_; rintro e w_q ⟨rfl, bw_q, bb_q⟩; have D9 := HF.out _ bb_q; have s0 := D9.c0; have s1 := D9.c1; have s2 := D9.c2; have t0 := D9.f 0; have t1 := D9.f 1; have t2 := D9.f 2; have Y9 := HY.out _ bb_q; have q0 := Y9.c0; have q1 := Y9.c1; have q2 := Y9.c2))
    all_goals (have G9 := grownBy_set3 (p := p) (B.out.trans (bb_q.mono B.out.size)) (.bool b1) (.slice a1 ny c1) (.slice e1 ne f1); have D8 := Rx.set3 (b' := b1) (v' := .slice a1 ny c1) (d' := .slice e1 ne f1) D9; go_wp2; go_end0; exact ⟨⟨_, rfl⟩, D8, G9⟩)
  · simp only [ht, if_true, if_false]
    have ht' : decide (cm < 0) = false := decide_eq_false ht
    go_enter Try.func93, Try.ntmps93
    go_wp2_with fail
    obtain ⟨W0, hW0⟩ : ∃ x, x = (w.alloc (.cells #[.bool b1, .slice a1 ny c1, .slice e1 ne f1] 31)) := ⟨_, rfl⟩
    have B := Lib.hid (show Below w.heap.size w W0 by rw [hW0]; exact ((Below.refl _ _).alloc (Nat.le_refl _) _))
    have D_y := Lib.hid (rx_at (show Rx W0 _ 31 (b1) (.slice a1 ny c1) (.slice e1 ne f1) by rw [hW0]; exact Rx.new _ _ _ _ _) (show w.heap.size = _ by simp))
    have SZ := Lib.hid (show W0.heap.size = w.heap.size + 1 by rw [hW0]; simp)
    rw [← hW0]
    clear hW0
    have BB := Lib.hid (Below.refl W0.heap.size W0)
    have M_t := Lib.hid (HD.out.below B.out)
    have K_q := Lib.hid (fun (W : World) (hW : Below W0.heap.size W0 W) => pre_plain ((by have h := impl_compareR b1 _ y _ e b0 _ x _ d W (H1.out.below (B.out.trans (hW.mono B.out.size))) (H0.out.below (B.out.trans (hW.mono B.out.size))) CH.out.2.2.1 CH.out.2.2.2.1 CH.out.1 CH.out.2.1 CH.out.2.2.2.2.2.1 CH.out.2.2.2.2.1 CH.out.2.2.2.2.2.2.2.1 CH.out.2.2.2.2.2.2.1 CH.out.2.2.2.2.2.2.2.2.2 CH.out.2.2.2.2.2.2.2.2.1; rw [HC.out] at h; exact h)) hW)
    have c0_t := M_t.out.c0
    have c1_t := M_t.out.c1
    have c2_t := M_t.out.c2
    have c0_y := (D_y.out.below BB.out).c0
    have c1_y := (D_y.out.below BB.out).c1
    have c2_y := (D_y.out.below BB.out).c2
    have f0_t := M_t.out.f 0
    have f1_t := M_t.out.f 1
    have f2_t := M_t.out.f 2
    have lt_t := M_t.out.lt
    have HF := Lib.hid (show ∀ W : World, Below W0.heap.size W0 W → Rx W p 85 b0 (.slice a0 nx c0) (.slice e0 nd f0) from fun W hW => M_t.out.below hW)
    have HY := Lib.hid (show ∀ W : World, Below W0.heap.size W0 W → Rx W w.heap.size 31 b1 (.slice a1 ny c1) (.slice e1 ne f1) from fun W hW => D_y.out.below (BB.out.trans (hW.mono BB.out.size)))
    go_region_with (first | (go_at_call 88; refine (K_q.out _ (by first | with_reducible exact Below.refl _ _ | with_reducible exact (Below.refl _ _).drew | with_reducible exact bb_q)).mono ?_; rintro e w_q ⟨rfl, bw_q, bb_q⟩; have D9 := HF.out _ bb_q; have s0 := D9.c0; have s1 := D9.c1; have s2 := D9.c2; have t0 := D9.f 0; have t1 := D9.f 1; have t2 := D9.f 2; have Y9 := HY.out _ bb_q; have q0 := Y9.c0; have q1 := Y9.c1; have q2 := Y9.c2))
    all_goals (go_wp2; go_end0; exact ⟨⟨_, rfl⟩, D9, grownBy_of_below (B.out.trans (bb_q.mono B.out.size)) _⟩)


set_option maxRecDepth 100000 in
set_option maxHeartbeats 2000000 in
theorem impl_totGreater (p : Nat) (b0 : Bool) (v0 : Value) (x : Nat) (d0 : Value) (d : Nat) (b1 : Bool) (v1 : Value) (y : Nat) (d1 : Value) (e : Nat) (w : World) (D : Rx w p 85 b0 v0 d0) (h0 : RowR w v0 (limI x) d0 (limI d)) (h1 : RowR w v1 (limI y) d1 (limI e)) (hx : x < pw 24) (hd : d < pw 24) (hy : y < pw 24) (he : e < pw 24) (hd0 : 0 < d) (he0 : 0 < e) (g0 : Nat.gcd x d = 1) (g1 : Nat.gcd y e = 1) (n0 : b0 = true → 0 < x) (n1 : b1 = true → 0 < y) :
    Calls Try.prog 95 #[.pointer (some ⟨p, 0, none⟩), .agg #[.bool b1, v1, d1]] w fun r w' => (∃ q, r = .returned q) ∧ Rx w' p 85 (if 0 < sgCmp b1 (y * d) b0 (x * e) then b1 else b0) (if 0 < sgCmp b1 (y * d) b0 (x * e) then v1 else v0) (if 0 < sgCmp b1 (y * d) b0 (x * e) then d1 else d0) ∧ w.grownBy w' (some p) := by
  have CH := Lib.hid (And.intro hx (And.intro hd (And.intro hy (And.intro he (And.intro hd0 (And.intro he0 (And.intro g0 (And.intro g1 (And.intro n0 n1)))))))))
  have HP := Lib.hid D.lt
  have HD := Lib.hid D
  have H0 := Lib.hid h0
  have H1 := Lib.hid h1
  clear hx hd hy he hd0 he0 g0 g1 n0 n1 D
  have RA_x := Lib.hid h0.1
  have RA_d := Lib.hid h0.2
  obtain ⟨⟨a0, c0, rfl, z1, z2, z3⟩, ⟨e0, f0, rfl, z4, z5, z6⟩⟩ := h0
  clear z1 z2 z3 z4 z5 z6
  have RA_y := Lib.hid h1.1
  have RA_e := Lib.hid h1.2
  obtain ⟨⟨a1, c1, rfl, z1, z2, z3⟩, ⟨e1, f1, rfl, z4, z5, z6⟩⟩ := h1
  clear z1 z2 z3 z4 z5 z6
  have L_x := Lib.hid (limI_length x)
  rw [limI_length] at RA_x
  try rw [limI_length x]
  obtain ⟨nx, hnx⟩ : ∃ n, nlen x = n := ⟨_, rfl⟩
  rw [hnx] at RA_x L_x
  try rw [hnx]
  have N_x := Lib.hid hnx
  clear hnx
  have L_d := Lib.hid (limI_length d)
  rw [limI_length] at RA_d
  try rw [limI_length d]
  obtain ⟨nd, hnd⟩ : ∃ n, nlen d = n := ⟨_, rfl⟩
  rw [hnd] at RA_d L_d
  try rw [hnd]
  have N_d := Lib.hid hnd
  clear hnd
  have L_y := Lib.hid (limI_length y)
  rw [limI_length] at RA_y
  try rw [limI_length y]
  obtain ⟨ny, hny⟩ : ∃ n, nlen y = n := ⟨_, rfl⟩
  rw [hny] at RA_y L_y
  try rw [hny]
  have N_y := Lib.hid hny
  clear hny
  have L_e := Lib.hid (limI_length e)
  rw [limI_length] at RA_e
  try rw [limI_length e]
  obtain ⟨ne, hne⟩ : ∃ n, nlen e = n := ⟨_, rfl⟩
  rw [hne] at RA_e L_e
  try rw [hne]
  have N_e := Lib.hid hne
  clear hne
  rw [L_x.out, L_d.out] at HD H0
  rw [L_y.out, L_e.out] at H1
  obtain ⟨cm, hcm⟩ : ∃ c, sgCmp b1 (y * d) b0 (x * e) = c := ⟨_, rfl⟩
  rw [hcm]
  have HC := Lib.hid hcm
  clear hcm
  by_cases ht : 0 < cm
  · simp only [ht, if_true, if_false]
    go_enter Try.func95, Try.ntmps95
    go_wp2_with fail
    obtain ⟨W0, hW0⟩ : ∃ x, x = (w.alloc (.cells #[.bool b1, .slice a1 ny c1, .slice e1 ne f1] 31)) := ⟨_, rfl⟩
    have B := Lib.hid (show Below w.heap.size w W0 by rw [hW0]; exact ((Below.refl _ _).alloc (Nat.le_refl _) _))
    have D_y := Lib.hid (rx_at (show Rx W0 _ 31 (b1) (.slice a1 ny c1) (.slice e1 ne f1) by rw [hW0]; exact Rx.new _ _ _ _ _) (show w.heap.size = _ by simp))
    have SZ := Lib.hid (show W0.heap.size = w.heap.size + 1 by rw [hW0]; simp)
    rw [← hW0]
    clear hW0
    have BB := Lib.hid (Below.refl W0.heap.size W0)
    have M_t := Lib.hid (HD.out.below B.out)
    have K_q := Lib.hid (fun (W : World) (hW : Below W0.heap.size W0 W) => pre_plain ((by have h := impl_compareR b1 _ y _ e b0 _ x _ d W (H1.out.below (B.out.trans (hW.mono B.out.size))) (H0.out.below (B.out.trans (hW.mono B.out.size))) CH.out.2.2.1 CH.out.2.2.2.1 CH.out.1 CH.out.2.1 CH.out.2.2.2.2.2.1 CH.out.2.2.2.2.1 CH.out.2.2.2.2.2.2.2.1 CH.out.2.2.2.2.2.2.1 CH.out.2.2.2.2.2.2.2.2.2 CH.out.2.2.2.2.2.2.2.2.1; rw [HC.out] at h; exact h)) hW)
    have c0_t := M_t.out.c0
    have c1_t := M_t.out.c1
    have c2_t := M_t.out.c2
    have c0_y := (D_y.out.below BB.out).c0
    have c1_y := (D_y.out.below BB.out).c1
    have c2_y := (D_y.out.below BB.out).c2
    have f0_t := M_t.out.f 0
    have f1_t := M_t.out.f 1
    have f2_t := M_t.out.f 2
    have lt_t := M_t.out.lt
    have HF := Lib.hid (show ∀ W : World, Below W0.heap.size W0 W → Rx W p 85 b0 (.slice a0 nx c0) (.slice e0 nd f0) from fun W hW => M_t.out.below hW)
    have HY := Lib.hid (show ∀ W : World, Below W0.heap.size W0 W → Rx W w.heap.size 31 b1 (.slice a1 ny c1) (.slice e1 ne f1) from fun W hW => D_y.out.below (BB.out.trans (hW.mono BB.out.size)))
    go_region_with (first | (go_at_call 88; refine (K_q.out _ (by first | with_reducible exact Below.refl _ _ | with_reducible exact (Below.refl _ _).drew | with_reducible exact bb_q)).mono ?_; rintro e w_q ⟨rfl, bw_q, bb_q⟩; have D9 := HF.out _ bb_q; have s0 := D9.c0; have s1 := D9.c1; have s2 := D9.c2; have t0 := D9.f 0; have t1 := D9.f 1; have t2 := D9.f 2; have Y9 := HY.out _ bb_q; have q0 := Y9.c0; have q1 := Y9.c1; have q2 := Y9.c2))
    all_goals (have G9 := grownBy_set3 (p := p) (B.out.trans (bb_q.mono B.out.size)) (.bool b1) (.slice a1 ny c1) (.slice e1 ne f1); have D8 := Rx.set3 (b' := b1) (v' := .slice a1 ny c1) (d' := .slice e1 ne f1) D9; go_wp2; go_end0; exact ⟨⟨_, rfl⟩, D8, G9⟩)
  · simp only [ht, if_true, if_false]
    have ht' : decide (0 < cm) = false := decide_eq_false ht
    go_enter Try.func95, Try.ntmps95
    go_wp2_with fail
    obtain ⟨W0, hW0⟩ : ∃ x, x = (w.alloc (.cells #[.bool b1, .slice a1 ny c1, .slice e1 ne f1] 31)) := ⟨_, rfl⟩
    have B := Lib.hid (show Below w.heap.size w W0 by rw [hW0]; exact ((Below.refl _ _).alloc (Nat.le_refl _) _))
    have D_y := Lib.hid (rx_at (show Rx W0 _ 31 (b1) (.slice a1 ny c1) (.slice e1 ne f1) by rw [hW0]; exact Rx.new _ _ _ _ _) (show w.heap.size = _ by simp))
    have SZ := Lib.hid (show W0.heap.size = w.heap.size + 1 by rw [hW0]; simp)
    rw [← hW0]
    clear hW0
    have BB := Lib.hid (Below.refl W0.heap.size W0)
    have M_t := Lib.hid (HD.out.below B.out)
    have K_q := Lib.hid (fun (W : World) (hW : Below W0.heap.size W0 W) => pre_plain ((by have h := impl_compareR b1 _ y _ e b0 _ x _ d W (H1.out.below (B.out.trans (hW.mono B.out.size))) (H0.out.below (B.out.trans (hW.mono B.out.size))) CH.out.2.2.1 CH.out.2.2.2.1 CH.out.1 CH.out.2.1 CH.out.2.2.2.2.2.1 CH.out.2.2.2.2.1 CH.out.2.2.2.2.2.2.2.1 CH.out.2.2.2.2.2.2.1 CH.out.2.2.2.2.2.2.2.2.2 CH.out.2.2.2.2.2.2.2.2.1; rw [HC.out] at h; exact h)) hW)
    have c0_t := M_t.out.c0
    have c1_t := M_t.out.c1
    have c2_t := M_t.out.c2
    have c0_y := (D_y.out.below BB.out).c0
    have c1_y := (D_y.out.below BB.out).c1
    have c2_y := (D_y.out.below BB.out).c2
    have f0_t := M_t.out.f 0
    have f1_t := M_t.out.f 1
    have f2_t := M_t.out.f 2
    have lt_t := M_t.out.lt
    have HF := Lib.hid (show ∀ W : World, Below W0.heap.size W0 W → Rx W p 85 b0 (.slice a0 nx c0) (.slice e0 nd f0) from fun W hW => M_t.out.below hW)
    have HY := Lib.hid (show ∀ W : World, Below W0.heap.size W0 W → Rx W w.heap.size 31 b1 (.slice a1 ny c1) (.slice e1 ne f1) from fun W hW => D_y.out.below (BB.out.trans (hW.mono BB.out.size)))
    go_region_with (first | (go_at_call 88; refine (K_q.out _ (by first | with_reducible exact Below.refl _ _ | with_reducible exact (Below.refl _ _).drew | with_reducible exact bb_q)).mono ?_; rintro e w_q ⟨rfl, bw_q, bb_q⟩; have D9 := HF.out _ bb_q; have s0 := D9.c0; have s1 := D9.c1; have s2 := D9.c2; have t0 := D9.f 0; have t1 := D9.f 1; have t2 := D9.f 2; have Y9 := HY.out _ bb_q; have q0 := Y9.c0; have q1 := Y9.c1; have q2 := Y9.c2))
    all_goals (go_wp2; go_end0; exact ⟨⟨_, rfl⟩, D9, grownBy_of_below (B.out.trans (bb_q.mono B.out.size)) _⟩)


end Go.Proofs.Ytgoonbjhfbnaiaa
