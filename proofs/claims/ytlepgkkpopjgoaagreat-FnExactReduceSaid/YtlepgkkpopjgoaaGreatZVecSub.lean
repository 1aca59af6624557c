/- Differences of valid fractions, on both sides. -/
import Derived.Test.YtlepgkkpopjgoaaGreatZVecNum
namespace Go.Proofs.YtlepgkkpopjgoaaGreat
open Go.RowKit Go.WideShapes Go.ChangeShapes
set_option linter.unusedVariables false
set_option linter.unusedSimpArgs false
theorem fr_forms {w : World} {v d : Value} {f : Fr} (h : RowR w v f.mag d f.den) : ∃ a c e k, v = .slice a f.mag.length c ∧ d = .slice e f.den.length k := by
  obtain ⟨⟨a, c, rfl, _⟩, ⟨e, k, rfl, _⟩⟩ := h
  exact ⟨a, c, e, k, rfl, rfl⟩

set_option maxRecDepth 100000 in
set_option maxHeartbeats 2000000 in
theorem impl_diffF (f g : Fr) (hf : okF f = true) (hg : okF g = true) (v d v' d' : Value) (w : World) (h0 : RowR w v f.mag d f.den) (h1 : RowR w v' g.mag d' g.den) :
    Calls Tryz.prog 184 #[.agg #[.bool f.neg, v, d], .agg #[.bool g.neg, v', d']] w fun r w' => ∃ x y, r = .returned (.agg #[.bool (subX f g).neg, x, y]) ∧ OwnR w' w.heap.size x (subX f g).mag y (subX f g).den ∧ Below w.heap.size w w' := by
  have H0 := Lib.hid h0
  have H1 := Lib.hid h1
  obtain ⟨a0, c0, e0, k0, rfl, rfl⟩ := fr_forms h0
  obtain ⟨a1, c1, e1, k1, rfl, rfl⟩ := fr_forms h1
  clear h0 h1
  have KN := Lib.hid (impl_oppF g hg)
  have KA := Lib.hid (impl_plusF f (negX g) hf (ok_neg hg))
  clear hf hg
  unfold subX
  obtain ⟨nx, hnx⟩ : ∃ n, f.mag.length = n := ⟨_, rfl⟩
  rw [hnx] at H0 ⊢
  clear hnx
  obtain ⟨nd, hnd⟩ : ∃ n, f.den.length = n := ⟨_, rfl⟩
  rw [hnd] at H0 ⊢
  clear hnd
  obtain ⟨ny, hny⟩ : ∃ n, g.mag.length = n := ⟨_, rfl⟩
  rw [hny] at H1 ⊢
  clear hny
  obtain ⟨ne, hne⟩ : ∃ n, g.den.length = n := ⟨_, rfl⟩
  rw [hne] at H1 ⊢
  clear hne
  go_enter Tryz.func184, Tryz.ntmps184
  go_wp2_with fail
  obtain ⟨W0, hW0⟩ : ∃ x, x = (((w.alloc (.cells #[.bool f.neg, .slice a0 nx c0, .slice e0 nd k0] 34)).alloc (.cells #[.bool g.neg, .slice a1 ny c1, .slice e1 ne k1] 34)).alloc (.cells #[.bool false, .slice none 0 0, .slice none 0 0] 34)) := ⟨_, rfl⟩
  have B := Lib.hid (show Below w.heap.size w W0 by rw [hW0]; exact ((((Below.refl _ _).alloc (Nat.le_refl _) _).alloc (by simp) _).alloc (by simp; omega) _))
  have D_x := Lib.hid (rx_at (show Rx W0 _ 34 (f.neg) (.slice a0 nx c0) (.slice e0 nd k0) by rw [hW0]; exact ((Rx.new _ _ _ _ _).alloc _).alloc _) (show w.heap.size = _ by simp))
  have D_y := Lib.hid (rx_at (show Rx W0 _ 34 (g.neg) (.slice a1 ny c1) (.slice e1 ne k1) by rw [hW0]; exact (Rx.new _ _ _ _ _).alloc _) (show (w.heap.size + 1) = _ by simp))
  have D_r := Lib.hid (rx_at (show Rx W0 _ 34 (false) (.slice none 0 0) (.slice none 0 0) by rw [hW0]; exact Rx.new _ _ _ _ _) (show (w.heap.size + 1 + 1) = _ by simp))
  have SZ := Lib.hid (show W0.heap.size = w.heap.size + 1 + 1 + 1 by rw [hW0]; simp)
  rw [← hW0]
  clear hW0
  have BB := Lib.hid (Below.refl W0.heap.size W0)
  have K_n := Lib.hid (fun (W : World) (hW : Below W0.heap.size W0 W) => pre_rat (KN.out _ _ W ((H1.out.below B.out).below hW)) hW)
  have K_q := Lib.hid (fun (W : World) (hW : Below W0.heap.size W0 W) (vv dd : Value) (hr : RowR W vv (negX g).mag dd (negX g).den) => pre_rat (KA.out _ _ vv dd W ((H0.out.below B.out).below hW) hr) hW)
  have c0_x := (D_x.out.below BB.out).c0
  have c1_x := (D_x.out.below BB.out).c1
  have c2_x := (D_x.out.below BB.out).c2
  have c0_y := (D_y.out.below BB.out).c0
  have c1_y := (D_y.out.below BB.out).c1
  have c2_y := (D_y.out.below BB.out).c2
  have HS := Lib.hid (show ∀ W : World, Below W0.heap.size W0 W → (W.cell? ⟨w.heap.size, 0, none⟩ = some (.bool f.neg) ∧ W.cell? ⟨w.heap.size, 1, none⟩ = some (.slice a0 nx c0) ∧ W.cell? ⟨w.heap.size, 2, none⟩ = some (.slice e0 nd k0) ∧ W.cell? ⟨(w.heap.size + 1), 0, none⟩ = some (.bool g.neg) ∧ W.cell? ⟨(w.heap.size + 1), 1, none⟩ = some (.slice a1 ny c1) ∧ W.cell? ⟨(w.heap.size + 1), 2, none⟩ = some (.slice e1 ne k1)) from fun W hW => ⟨(hW.cell (p := ⟨w.heap.size, 0, none⟩) (D_x.out.below BB.out).lt).trans c0_x, (hW.cell (p := ⟨w.heap.size, 1, none⟩) (D_x.out.below BB.out).lt).trans c1_x, (hW.cell (p := ⟨w.heap.size, 2, none⟩) (D_x.out.below BB.out).lt).trans c2_x, (hW.cell (p := ⟨(w.heap.size + 1), 0, none⟩) (D_y.out.below BB.out).lt).trans c0_y, (hW.cell (p := ⟨(w.heap.size + 1), 1, none⟩) (D_y.out.below BB.out).lt).trans c1_y, (hW.cell (p := ⟨(w.heap.size + 1), 2, none⟩) (D_y.out.below BB.out).lt).trans c2_y⟩)
  have lt_x := (D_x.out.below BB.out).lt
  have lt_y := (D_y.out.below BB.out).lt
  have c0_r := (D_r.out.below BB.out).c0
  have c1_r := (D_r.out.below BB.out).c1
  have c2_r := (D_r.out.below BB.out).c2
  have f0_r := (D_r.out.below BB.out).f 0
  have f1_r := (D_r.out.below BB.out).f 1
  have f2_r := (D_r.out.below BB.out).f 2
  have HF := Lib.hid (show ∀ W : World, Below W0.heap.size W0 W → (W.cell? ⟨(w.heap.size + 1 + 1), 0, none⟩ = some (.bool false) ∧ W.cell? ⟨(w.heap.size + 1 + 1), 1, none⟩ = some (.slice none 0 0) ∧ W.cell? ⟨(w.heap.size + 1 + 1), 2, none⟩ = some (.slice none 0 0) ∧ W.frozen? ⟨(w.heap.size + 1 + 1), 0, none⟩ = false ∧ W.frozen? ⟨(w.heap.size + 1 + 1), 1, none⟩ = false ∧ W.frozen? ⟨(w.heap.size + 1 + 1), 2, none⟩ = false) from fun W hW => ⟨(hW.cell (p := ⟨(w.heap.size + 1 + 1), 0, none⟩) (D_r.out.below BB.out).lt).trans c0_r, (hW.cell (p := ⟨(w.heap.size + 1 + 1), 1, none⟩) (D_r.out.below BB.out).lt).trans c1_r, (hW.cell (p := ⟨(w.heap.size + 1 + 1), 2, none⟩) (D_r.out.below BB.out).lt).trans c2_r, (hW.frozen (p := ⟨(w.heap.size + 1 + 1), 0, none⟩) (D_r.out.below BB.out).lt).trans f0_r, (hW.frozen (p := ⟨(w.heap.size + 1 + 1), 1, none⟩) (D_r.out.below BB.out).lt).trans f1_r, (hW.frozen (p := ⟨(w.heap.size + 1 + 1), 2, none⟩) (D_r.out.below BB.out).lt).trans f2_r⟩)
  go_region_held3 (fun w' => w'.cell? ⟨w.heap.size, 0, none⟩ = some (.bool f.neg) ∧ w'.cell? ⟨w.heap.size, 1, none⟩ = some (.slice a0 nx c0) ∧ w'.cell? ⟨w.heap.size, 2, none⟩ = some (.slice e0 nd k0) ∧ w'.cell? ⟨(w.heap.size + 1), 0, none⟩ = some (.bool g.neg) ∧ w'.cell? ⟨(w.heap.size + 1), 1, none⟩ = some (.slice a1 ny c1) ∧ w'.cell? ⟨(w.heap.size + 1), 2, none⟩ = some (.slice e1 ne k1)) (first | exact HS.out _ (by first | with_reducible exact Below.refl _ _ | with_reducible exact (Below.refl _ _).drew | with_reducible exact bb_n | with_reducible exact bb_q | fail) | exact ⟨(cell_far3 (show w.heap.size ≠ (w.heap.size + 1 + 1) from by omega) _ _ _).trans ((HS.out _ (by first | with_reducible exact Below.refl _ _ | with_reducible exact (Below.refl _ _).drew | with_reducible exact bb_n | with_reducible exact bb_q | fail)).1), (cell_far3 (show w.heap.size ≠ (w.heap.size + 1 + 1) from by omega) _ _ _).trans ((HS.out _ (by first | with_reducible exact Below.refl _ _ | with_reducible exact (Below.refl _ _).drew | with_reducible exact bb_n | with_reducible exact bb_q | fail)).2.1), (cell_far3 (show w.heap.size ≠ (w.heap.size + 1 + 1) from by omega) _ _ _).trans ((HS.out _ (by first | with_reducible exact Below.refl _ _ | with_reducible exact (Below.refl _ _).drew | with_reducible exact bb_n | with_reducible exact bb_q | fail)).2.2.1), (cell_far3 (show (w.heap.size + 1) ≠ (w.heap.size + 1 + 1) from by omega) _ _ _).trans ((HS.out _ (by first | with_reducible exact Below.refl _ _ | with_reducible exact (Below.refl _ _).drew | with_reducible exact bb_n | with_reducible exact bb_q | fail)).2.2.2.1), (cell_far3 (show (w.heap.size + 1) ≠ (w.heap.size + 1 + 1) from by omega) _ _ _).trans ((HS.out _ (by first | with_reducible exact Below.refl _ _ | with_reducible exact (Below.refl _ _).drew | with_reducible exact bb_n | with_reducible exact bb_q | fail)).2.2.2.2.1), (cell_far3 (show (w.heap.size + 1) ≠ (w.heap.size + 1 + 1) from by omega) _ _ _).trans ((HS.out _ (by first | with_reducible exact Below.refl _ _ | with_reducible exact (Below.refl _ _).drew | with_reducible exact bb_n | with_reducible exact bb_q | fail)).2.2.2.2.2)⟩)
    (first
      | (go_at_call 149; refine (K_q.out _ (by first | with_reducible exact Below.refl _ _ | with_reducible exact (Below.refl _ _).drew | with_reducible exact bb_n | with_reducible exact bb_q | fail) _ _ (by first | with_reducible exact u_n.row)).mono ?_; rintro e w_q ⟨v_q, d_q, rfl, u_q, lo_q, bw_q, bb_q⟩; obtain ⟨a_q, c_q, e_q, f_q, rfl, rfl⟩ := u_q.slices; (try first | with_reducible (have u_n := u_n.below bw_q)); obtain ⟨s0, s1, s2, t0, t1, t2⟩ := HF.out _ bb_q)
      | (go_at_call 76; refine (K_n.out _ (by first | with_reducible exact Below.refl _ _ | with_reducible exact (Below.refl _ _).drew | with_reducible exact bb_n | with_reducible exact bb_q | fail)).mono ?_; rintro e w_n ⟨v_n, d_n, rfl, u_n, lo_n, bw_n, bb_n⟩; obtain ⟨a_n, c_n, e_n, f_n, rfl, rfl⟩ := u_n.slices; (try first | with_reducible (have u_q := u_q.below bw_n)); obtain ⟨s0, s1, s2, t0, t1, t2⟩ := HF.out _ bb_n))
  all_goals (have D9 := D_r.out.below (BB.out.trans (bb_q.mono BB.out.size)); obtain ⟨e1, e2⟩ := rat_end (b' := (addX f (negX g)).neg) (B.out.trans (bb_q.mono B.out.size)) D9 (OwnR.base (B' := W0.heap.size) u_q BB.out.size) (by decide) (by have := SZ.out; omega) (by omega) (.slice a_q (addX f (negX g)).mag.length c_q) (.slice e_q (addX f (negX g)).den.length f_q); have D8 := Rx.set3 (b' := (addX f (negX g)).neg) (v' := .slice a_q (addX f (negX g)).mag.length c_q) (d' := .slice e_q (addX f (negX g)).den.length f_q) D9; have hc0 := D8.c0; have hc1 := D8.c1; have hc2 := D8.c2; go_wp2; exact bodyPost_ret (v := .agg #[.bool ((addX f (negX g)).neg), .slice a_q (addX f (negX g)).mag.length c_q, .slice e_q (addX f (negX g)).den.length f_q]) (by simp [results, Tryz.results184, go_sem, hc0, hc1, hc2]) rfl ⟨_, _, rfl, e1, e2⟩)

end Go.Proofs.YtlepgkkpopjgoaaGreat
