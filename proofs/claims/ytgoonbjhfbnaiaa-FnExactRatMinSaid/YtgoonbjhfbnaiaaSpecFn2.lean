/- Differences, the smaller and the greater of two, in the model; opposites and signs on both sides. -/
import Derived.Test.YtgoonbjhfbnaiaaSpecFn
import Derived.Test.YtgoonbjhfbnaiaaSpecCopy
namespace Go.Proofs.Ytgoonbjhfbnaiaa
open Go.RowKit Go.WideShapes Go.ChangeShapes
set_option linter.unusedVariables false
set_option linter.unusedSimpArgs false


set_option maxRecDepth 100000 in
set_option maxHeartbeats 4000000 in
theorem spec_ratSub (b0 : Bool) (v0 : Value) (zs0 : List Int) (d0 : Value) (ds0 : List Int) (b1 : Bool) (v1 : Value) (zs1 : List Int) (d1 : Value) (ds1 : List Int) (w : World) (h0 : RowR w v0 zs0 d0 ds0) (h1 : RowR w v1 zs1 d1 ds1) :
    Calls Try.prog 38 #[.agg #[.bool b0, v0, d0], .agg #[.bool b1, v1, d1]] w fun r w' => ∃ v dd, r = .returned (.agg #[.bool (ratSubB b0 zs0 ds0 b1 zs1 ds1), v, dd]) ∧ OwnR w' w.heap.size v (ratSubZ b0 zs0 ds0 b1 zs1 ds1) dd (ratSubD b0 zs0 ds0 b1 zs1 ds1) ∧ Below w.heap.size w w' := by
  cases q0 : ratOk b0 zs0 ds0 with
  | false =>
    have HE := ratSub_no (b1 := b1) (zs1 := zs1) (ds1 := ds1) (.inl q0)
    rw [HE.1, HE.2.1, HE.2.2]
    have E0 := Lib.hid q0
    clear HE q0
    have H0 := Lib.hid h0
    have H1 := Lib.hid h1
    obtain ⟨⟨a0, c0, rfl, z1, z2, z3⟩, ⟨e0, f0, rfl, z4, z5, z6⟩⟩ := h0
    clear z1 z2 z3 z4 z5 z6
    obtain ⟨⟨a1, c1, rfl, z1, z2, z3⟩, ⟨e1, f1, rfl, z4, z5, z6⟩⟩ := h1
    clear z1 z2 z3 z4 z5 z6
    obtain ⟨nx, hnx⟩ : ∃ n, zs0.length = n := ⟨_, rfl⟩
    rw [hnx] at H0
    try rw [hnx]
    have Nnx := Lib.hid hnx
    clear hnx
    obtain ⟨nd, hnd⟩ : ∃ n, ds0.length = n := ⟨_, rfl⟩
    rw [hnd] at H0
    try rw [hnd]
    have Nnd := Lib.hid hnd
    clear hnd
    obtain ⟨ny, hny⟩ : ∃ n, zs1.length = n := ⟨_, rfl⟩
    rw [hny] at H1
    try rw [hny]
    have Nny := Lib.hid hny
    clear hny
    obtain ⟨ne, hne⟩ : ∃ n, ds1.length = n := ⟨_, rfl⟩
    rw [hne] at H1
    try rw [hne]
    have Nne := Lib.hid hne
    clear hne
    go_enter Try.func38, Try.ntmps38
    go_wp2_with fail
    obtain ⟨W0, hW0⟩ : ∃ x, x = (((w.alloc (.cells #[.bool b0, .slice a0 nx c0, .slice e0 nd f0] 31)).alloc (.cells #[.bool b1, .slice a1 ny c1, .slice e1 ne f1] 31)).alloc (.cells #[.bool false, .slice none 0 0, .slice none 0 0] 31)) := ⟨_, rfl⟩
    have B := Lib.hid (show Below w.heap.size w W0 by rw [hW0]; exact ((((Below.refl _ _).alloc (Nat.le_refl _) _).alloc (by simp) _).alloc (by simp; omega) _))
    have D_x := Lib.hid (rx_at (show Rx W0 _ 31 (b0) (.slice a0 nx c0) (.slice e0 nd f0) by rw [hW0]; exact ((Rx.new _ _ _ _ _).alloc _).alloc _) (show w.heap.size = _ by simp))
    have D_y := Lib.hid (rx_at (show Rx W0 _ 31 (b1) (.slice a1 ny c1) (.slice e1 ne f1) by rw [hW0]; exact (Rx.new _ _ _ _ _).alloc _) (show (w.heap.size + 1) = _ by simp))
    have D_r := Lib.hid (rx_at (show Rx W0 _ 31 (false) (.slice none 0 0) (.slice none 0 0) by rw [hW0]; exact Rx.new _ _ _ _ _) (show (w.heap.size + 1 + 1) = _ by simp))
    have SZ := Lib.hid (show W0.heap.size = w.heap.size + 1 + 1 + 1 by rw [hW0]; simp)
    rw [← hW0]
    clear hW0
    have BB := Lib.hid (Below.refl W0.heap.size W0)
    refine (spec_ratOkR b0 _ zs0 _ ds0 _ _ (H0.out.below B.out) E0.out).mono ?_
    rintro e w1 ⟨rfl, bw1⟩
    replace B := Lib.hid (B.out.trans (bw1.mono B.out.size))
    replace BB := Lib.hid (BB.out.trans (bw1.mono BB.out.size))
    clear bw1
    have c0_r := (D_r.out.below BB.out).c0
    have c1_r := (D_r.out.below BB.out).c1
    have c2_r := (D_r.out.below BB.out).c2
    have f0_r := (D_r.out.below BB.out).f 0
    have f1_r := (D_r.out.below BB.out).f 1
    have f2_r := (D_r.out.below BB.out).f 2
    obtain ⟨e1, e2⟩ := rat_end (b' := false) B.out (D_r.out.below BB.out) (OwnR.nil _ W0.heap.size) (by decide) (by have := SZ.out; omega) (by omega) (.slice none 0 0) (.slice none 0 0)
    have D8 := Rx.set3 (b' := false) (v' := .slice none 0 0) (d' := .slice none 0 0) (D_r.out.below BB.out)
    have hc0 := D8.c0; have hc1 := D8.c1; have hc2 := D8.c2
    go_wp2
    exact bodyPost_ret (v := .agg #[.bool (false), .slice none 0 0, .slice none 0 0]) (by simp [results, Try.results38, go_sem, hc0, hc1, hc2]) rfl ⟨_, _, rfl, e1, e2⟩

  | true =>
    cases q1 : ratOk b1 zs1 ds1 with
    | false =>
      have HE := ratSub_no (b0 := b0) (zs0 := zs0) (ds0 := ds0) (.inr q1)
      rw [HE.1, HE.2.1, HE.2.2]
      have E0 := Lib.hid q0
      have E1 := Lib.hid q1
      clear HE q0 q1
      have H0 := Lib.hid h0
      have H1 := Lib.hid h1
      obtain ⟨⟨a0, c0, rfl, z1, z2, z3⟩, ⟨e0, f0, rfl, z4, z5, z6⟩⟩ := h0
      clear z1 z2 z3 z4 z5 z6
      obtain ⟨⟨a1, c1, rfl, z1, z2, z3⟩, ⟨e1, f1, rfl, z4, z5, z6⟩⟩ := h1
      clear z1 z2 z3 z4 z5 z6
      obtain ⟨nx, hnx⟩ : ∃ n, zs0.length = n := ⟨_, rfl⟩
      rw [hnx] at H0
      try rw [hnx]
      have Nnx := Lib.hid hnx
      clear hnx
      obtain ⟨nd, hnd⟩ : ∃ n, ds0.length = n := ⟨_, rfl⟩
      rw [hnd] at H0
      try rw [hnd]
      have Nnd := Lib.hid hnd
      clear hnd
      obtain ⟨ny, hny⟩ : ∃ n, zs1.length = n := ⟨_, rfl⟩
      rw [hny] at H1
      try rw [hny]
      have Nny := Lib.hid hny
      clear hny
      obtain ⟨ne, hne⟩ : ∃ n, ds1.length = n := ⟨_, rfl⟩
      rw [hne] at H1
      try rw [hne]
      have Nne := Lib.hid hne
      clear hne
      go_enter Try.func38, Try.ntmps38
      go_wp2_with fail
      obtain ⟨W0, hW0⟩ : ∃ x, x = (((w.alloc (.cells #[.bool b0, .slice a0 nx c0, .slice e0 nd f0] 31)).alloc (.cells #[.bool b1, .slice a1 ny c1, .slice e1 ne f1] 31)).alloc (.cells #[.bool false, .slice none 0 0, .slice none 0 0] 31)) := ⟨_, rfl⟩
      have B := Lib.hid (show Below w.heap.size w W0 by rw [hW0]; exact ((((Below.refl _ _).alloc (Nat.le_refl _) _).alloc (by simp) _).alloc (by simp; omega) _))
      have D_x := Lib.hid (rx_at (show Rx W0 _ 31 (b0) (.slice a0 nx c0) (.slice e0 nd f0) by rw [hW0]; exact ((Rx.new _ _ _ _ _).alloc _).alloc _) (show w.heap.size = _ by simp))
      have D_y := Lib.hid (rx_at (show Rx W0 _ 31 (b1) (.slice a1 ny c1) (.slice e1 ne f1) by rw [hW0]; exact (Rx.new _ _ _ _ _).alloc _) (show (w.heap.size + 1) = _ by simp))
      have D_r := Lib.hid (rx_at (show Rx W0 _ 31 (false) (.slice none 0 0) (.slice none 0 0) by rw [hW0]; exact Rx.new _ _ _ _ _) (show (w.heap.size + 1 + 1) = _ by simp))
      have SZ := Lib.hid (show W0.heap.size = w.heap.size + 1 + 1 + 1 by rw [hW0]; simp)
      rw [← hW0]
      clear hW0
      have BB := Lib.hid (Below.refl W0.heap.size W0)
      refine (spec_ratOkR b0 _ zs0 _ ds0 _ _ (H0.out.below B.out) E0.out).mono ?_
      rintro e w1 ⟨rfl, bw1⟩
      replace B := Lib.hid (B.out.trans (bw1.mono B.out.size))
      replace BB := Lib.hid (BB.out.trans (bw1.mono BB.out.size))
      clear bw1
      have c0_y := (D_y.out.below BB.out).c0
      have c1_y := (D_y.out.below BB.out).c1
      have c2_y := (D_y.out.below BB.out).c2
      go_wp2_with fail
      clear c0_y c1_y c2_y
      refine (spec_ratOkR b1 _ zs1 _ ds1 _ _ (H1.out.below B.out) E1.out).mono ?_
      rintro e w2 ⟨rfl, bw2⟩
      replace B := Lib.hid (B.out.trans (bw2.mono B.out.size))
      replace BB := Lib.hid (BB.out.trans (bw2.mono BB.out.size))
      clear bw2
      have c0_r := (D_r.out.below BB.out).c0
      have c1_r := (D_r.out.below BB.out).c1
      have c2_r := (D_r.out.below BB.out).c2
      have f0_r := (D_r.out.below BB.out).f 0
      have f1_r := (D_r.out.below BB.out).f 1
      have f2_r := (D_r.out.below BB.out).f 2
      obtain ⟨e1, e2⟩ := rat_end (b' := false) B.out (D_r.out.below BB.out) (OwnR.nil _ W0.heap.size) (by decide) (by have := SZ.out; omega) (by omega) (.slice none 0 0) (.slice none 0 0)
      have D8 := Rx.set3 (b' := false) (v' := .slice none 0 0) (d' := .slice none 0 0) (D_r.out.below BB.out)
      have hc0 := D8.c0; have hc1 := D8.c1; have hc2 := D8.c2
      go_wp2
      exact bodyPost_ret (v := .agg #[.bool (false), .slice none 0 0, .slice none 0 0]) (by simp [results, Try.results38, go_sem, hc0, hc1, hc2]) rfl ⟨_, _, rfl, e1, e2⟩

    | true =>
      obtain ⟨x, d, rfl, rfl, hx, hd, hd0, g0, n0⟩ := ratOk_parts q0
      obtain ⟨y, e, rfl, rfl, hy, he, he0, g1, n1⟩ := ratOk_parts q1
      have HE := ratSub_yes q0 q1
      rw [HE.1, HE.2.1, HE.2.2]
      have E0 := Lib.hid q0
      have E1 := Lib.hid q1
      have CH := Lib.hid (And.intro hx (And.intro hd (And.intro hy (And.intro he (And.intro hd0 (And.intro he0 (And.intro g0 (And.intro g1 (And.intro n0 n1)))))))))
      clear HE q0 q1 hx hd hy he hd0 he0 g0 g1 n0 n1
      have H0 := Lib.hid h0
      have H1 := Lib.hid h1
      obtain ⟨⟨a0, c0, rfl, z1, z2, z3⟩, ⟨e0, f0, rfl, z4, z5, z6⟩⟩ := h0
      clear z1 z2 z3 z4 z5 z6
      obtain ⟨⟨a1, c1, rfl, z1, z2, z3⟩, ⟨e1, f1, rfl, z4, z5, z6⟩⟩ := h1
      clear z1 z2 z3 z4 z5 z6
      obtain ⟨nx, hnx⟩ : ∃ n, (limI x).length = n := ⟨_, rfl⟩
      rw [hnx] at H0
      try rw [hnx]
      have Nnx := Lib.hid hnx
      clear hnx
      obtain ⟨nd, hnd⟩ : ∃ n, (limI d).length = n := ⟨_, rfl⟩
      rw [hnd] at H0
      try rw [hnd]
      have Nnd := Lib.hid hnd
      clear hnd
      obtain ⟨ny, hny⟩ : ∃ n, (limI y).length = n := ⟨_, rfl⟩
      rw [hny] at H1
      try rw [hny]
      have Nny := Lib.hid hny
      clear hny
      obtain ⟨ne, hne⟩ : ∃ n, (limI e).length = n := ⟨_, rfl⟩
      rw [hne] at H1
      try rw [hne]
      have Nne := Lib.hid hne
      clear hne
      obtain ⟨SS, hSS⟩ : ∃ s, (sgAddB b0 (x * e) (!b1 && decide (0 < y)) (y * d)) = s := ⟨_, rfl⟩
      obtain ⟨XX, hXX⟩ : ∃ s, (lowX (sgAddN b0 (x * e) (!b1 && decide (0 < y)) (y * d)) (d * e)) = s := ⟨_, rfl⟩
      obtain ⟨DD, hDD⟩ : ∃ s, (lowD (sgAddN b0 (x * e) (!b1 && decide (0 < y)) (y * d)) (d * e)) = s := ⟨_, rfl⟩
      rw [hSS, hXX, hDD]
      have HE := Lib.hid (And.intro hSS (And.intro hXX hDD))
      clear hSS hXX hDD
      go_enter Try.func38, Try.ntmps38
      go_wp2_with fail
      obtain ⟨W0, hW0⟩ : ∃ x, x = (((w.alloc (.cells #[.bool b0, .slice a0 nx c0, .slice e0 nd f0] 31)).alloc (.cells #[.bool b1, .slice a1 ny c1, .slice e1 ne f1] 31)).alloc (.cells #[.bool false, .slice none 0 0, .slice none 0 0] 31)) := ⟨_, rfl⟩
      have B := Lib.hid (show Below w.heap.size w W0 by rw [hW0]; exact ((((Below.refl _ _).alloc (Nat.le_refl _) _).alloc (by simp) _).alloc (by simp; omega) _))
      have D_x := Lib.hid (rx_at (show Rx W0 _ 31 (b0) (.slice a0 nx c0) (.slice e0 nd f0) by rw [hW0]; exact ((Rx.new _ _ _ _ _).alloc _).alloc _) (show w.heap.size = _ by simp))
      have D_y := Lib.hid (rx_at (show Rx W0 _ 31 (b1) (.slice a1 ny c1) (.slice e1 ne f1) by rw [hW0]; exact (Rx.new _ _ _ _ _).alloc _) (show (w.heap.size + 1) = _ by simp))
      have D_r := Lib.hid (rx_at (show Rx W0 _ 31 (false) (.slice none 0 0) (.slice none 0 0) by rw [hW0]; exact Rx.new _ _ _ _ _) (show (w.heap.size + 1 + 1) = _ by simp))
      have SZ := Lib.hid (show W0.heap.size = w.heap.size + 1 + 1 + 1 by rw [hW0]; simp)
      rw [← hW0]
      clear hW0
      have BB := Lib.hid (Below.refl W0.heap.size W0)
      refine (spec_ratOkR b0 _ (limI x) _ (limI d) _ _ (H0.out.below B.out) E0.out).mono ?_
      rintro e w1 ⟨rfl, bw1⟩
      replace B := Lib.hid (B.out.trans (bw1.mono B.out.size))
      replace BB := Lib.hid (BB.out.trans (bw1.mono BB.out.size))
      clear bw1
      have c0_y := (D_y.out.below BB.out).c0
      have c1_y := (D_y.out.below BB.out).c1
      have c2_y := (D_y.out.below BB.out).c2
      go_wp2_with fail
      clear c0_y c1_y c2_y
      refine (spec_ratOkR b1 _ (limI y) _ (limI e) _ _ (H1.out.below B.out) E1.out).mono ?_
      rintro e w2 ⟨rfl, bw2⟩
      replace B := Lib.hid (B.out.trans (bw2.mono B.out.size))
      replace BB := Lib.hid (BB.out.trans (bw2.mono BB.out.size))
      clear bw2
      have K_o := Lib.hid (fun (W : World) (hW : Below w2.heap.size w2 W) => pre_rat (spec_neg b1 _ y _ e W (H1.out.below (B.out.trans (hW.mono B.out.size))) CH.out.2.2.1 CH.out.2.2.2.1) hW)
      have K_q := Lib.hid (fun (W : World) (hW : Below w2.heap.size w2 W) (vv dv : Value) (hr : RowR W vv (limI y) dv (limI e)) => pre_rat ((by have h := spec_addR b0 _ x _ d (!b1 && decide (0 < y)) vv y dv e W (H0.out.below (B.out.trans (hW.mono B.out.size))) hr CH.out.1 CH.out.2.1 CH.out.2.2.1 CH.out.2.2.2.1 CH.out.2.2.2.2.1 CH.out.2.2.2.2.2.1 CH.out.2.2.2.2.2.2.1 CH.out.2.2.2.2.2.2.2.1 CH.out.2.2.2.2.2.2.2.2.1 (fun hh => by have := (Bool.and_eq_true_iff.1 hh).2; simpa using this); rw [HE.out.1, HE.out.2.1, HE.out.2.2] at h; exact h)) hW)
      have c0_x := (D_x.out.below BB.out).c0
      have c1_x := (D_x.out.below BB.out).c1
      have c2_x := (D_x.out.below BB.out).c2
      have c0_y := (D_y.out.below BB.out).c0
      have c1_y := (D_y.out.below BB.out).c1
      have c2_y := (D_y.out.below BB.out).c2
      go_wp2_with fail
      have HS := Lib.hid (show ∀ W : World, Below w2.heap.size w2 W → (W.cell? ⟨w.heap.size, 0, none⟩ = some (.bool b0) ∧ W.cell? ⟨w.heap.size, 1, none⟩ = some (.slice a0 nx c0) ∧ W.cell? ⟨w.heap.size, 2, none⟩ = some (.slice e0 nd f0) ∧ W.cell? ⟨(w.heap.size + 1), 0, none⟩ = some (.bool b1) ∧ W.cell? ⟨(w.heap.size + 1), 1, none⟩ = some (.slice a1 ny c1) ∧ W.cell? ⟨(w.heap.size + 1), 2, none⟩ = some (.slice e1 ne f1)) from fun W hW => ⟨(hW.cell (p := ⟨w.heap.size, 0, none⟩) (D_x.out.below BB.out).lt).trans c0_x, (hW.cell (p := ⟨w.heap.size, 1, none⟩) (D_x.out.below BB.out).lt).trans c1_x, (hW.cell (p := ⟨w.heap.size, 2, none⟩) (D_x.out.below BB.out).lt).trans c2_x, (hW.cell (p := ⟨(w.heap.size + 1), 0, none⟩) (D_y.out.below BB.out).lt).trans c0_y, (hW.cell (p := ⟨(w.heap.size + 1), 1, none⟩) (D_y.out.below BB.out).lt).trans c1_y, (hW.cell (p := ⟨(w.heap.size + 1), 2, none⟩) (D_y.out.below BB.out).lt).trans c2_y⟩)
      have lt_x := (D_x.out.below BB.out).lt
      have lt_y := (D_y.out.below BB.out).lt
      have c0_r := (D_r.out.below BB.out).c0
      have c1_r := (D_r.out.below BB.out).c1
      have c2_r := (D_r.out.below BB.out).c2
      have f0_r := (D_r.out.below BB.out).f 0
      have f1_r := (D_r.out.below BB.out).f 1
      have f2_r := (D_r.out.below BB.out).f 2
      have HF := Lib.hid (show ∀ W : World, Below w2.heap.size w2 W → (W.cell? ⟨(w.heap.size + 1 + 1), 0, none⟩ = some (.bool false) ∧ W.cell? ⟨(w.heap.size + 1 + 1), 1, none⟩ = some (.slice none 0 0) ∧ W.cell? ⟨(w.heap.size + 1 + 1), 2, none⟩ = some (.slice none 0 0) ∧ W.frozen? ⟨(w.heap.size + 1 + 1), 0, none⟩ = false ∧ W.frozen? ⟨(w.heap.size + 1 + 1), 1, none⟩ = false ∧ W.frozen? ⟨(w.heap.size + 1 + 1), 2, none⟩ = false) from fun W hW => ⟨(hW.cell (p := ⟨(w.heap.size + 1 + 1), 0, none⟩) (D_r.out.below BB.out).lt).trans c0_r, (hW.cell (p := ⟨(w.heap.size + 1 + 1), 1, none⟩) (D_r.out.below BB.out).lt).trans c1_r, (hW.cell (p := ⟨(w.heap.size + 1 + 1), 2, none⟩) (D_r.out.below BB.out).lt).trans c2_r, (hW.frozen (p := ⟨(w.heap.size + 1 + 1), 0, none⟩) (D_r.out.below BB.out).lt).trans f0_r, (hW.frozen (p := ⟨(w.heap.size + 1 + 1), 1, none⟩) (D_r.out.below BB.out).lt).trans f1_r, (hW.frozen (p := ⟨(w.heap.size + 1 + 1), 2, none⟩) (D_r.out.below BB.out).lt).trans f2_r⟩)
      go_region_held3 (fun w' => w'.cell? ⟨w.heap.size, 0, none⟩ = some (.bool b0) ∧ w'.cell? ⟨w.heap.size, 1, none⟩ = some (.slice a0 nx c0) ∧ w'.cell? ⟨w.heap.size, 2, none⟩ = some (.slice e0 nd f0) ∧ w'.cell? ⟨(w.heap.size + 1), 0, none⟩ = some (.bool b1) ∧ w'.cell? ⟨(w.heap.size + 1), 1, none⟩ = some (.slice a1 ny c1) ∧ w'.cell? ⟨(w.heap.size + 1), 2, none⟩ = some (.slice e1 ne f1)) (first | exact HS.out _ (by first | with_reducible exact Below.refl _ _ | with_reducible exact (Below.refl _ _).drew | with_reducible exact bb_o | with_reducible exact bb_q | fail) | exact ⟨(cell_far3 (show w.heap.size ≠ (w.heap.size + 1 + 1) from by omega) _ _ _).trans ((HS.out _ (by first | with_reducible exact Below.refl _ _ | with_reducible exact (Below.refl _ _).drew | with_reducible exact bb_o | with_reducible exact bb_q | fail)).1), (cell_far3 (show w.heap.size ≠ (w.heap.size + 1 + 1) from by omega) _ _ _).trans ((HS.out _ (by first | with_reducible exact Below.refl _ _ | with_reducible exact (Below.refl _ _).drew | with_reducible exact bb_o | with_reducible exact bb_q | fail)).2.1), (cell_far3 (show w.heap.size ≠ (w.heap.size + 1 + 1) from by omega) _ _ _).trans ((HS.out _ (by first | with_reducible exact Below.refl _ _ | with_reducible exact (Below.refl _ _).drew | with_reducible exact bb_o | with_reducible exact bb_q | fail)).2.2.1), (cell_far3 (show (w.heap.size + 1) ≠ (w.heap.size + 1 + 1) from by omega) _ _ _).trans ((HS.out _ (by first | with_reducible exact Below.refl _ _ | with_reducible exact (Below.refl _ _).drew | with_reducible exact bb_o | with_reducible exact bb_q | fail)).2.2.2.1), (cell_far3 (show (w.heap.size + 1) ≠ (w.heap.size + 1 + 1) from by omega) _ _ _).trans ((HS.out _ (by first | with_reducible exact Below.refl _ _ | with_reducible exact (Below.refl _ _).drew | with_reducible exact bb_o | with_reducible exact bb_q | fail)).2.2.2.2.1), (cell_far3 (show (w.heap.size + 1) ≠ (w.heap.size + 1 + 1) from by omega) _ _ _).trans ((HS.out _ (by first | with_reducible exact Below.refl _ _ | with_reducible exact (Below.refl _ _).drew | with_reducible exact bb_o | with_reducible exact bb_q | fail)).2.2.2.2.2)⟩)
        (first
          | (go_at_call 76; refine (K_q.out _ (by first | with_reducible exact Below.refl _ _ | with_reducible exact (Below.refl _ _).drew | with_reducible exact bb_o | with_reducible exact bb_q | fail) _ _ (by first | with_reducible exact u_o.row)).mono ?_; rintro e w_q ⟨v_q, d_q, rfl, u_q, lo_q, bw_q, bb_q⟩; obtain ⟨a_q, c_q, e_q, f_q, rfl, rfl⟩ := u_q.slices; (try first | with_reducible (have u_o := u_o.below bw_q)); obtain ⟨s0, s1, s2, t0, t1, t2⟩ := HF.out _ bb_q)
          | (go_at_call 80; refine (K_o.out _ (by first | with_reducible exact Below.refl _ _ | with_reducible exact (Below.refl _ _).drew | with_reducible exact bb_o | with_reducible exact bb_q | fail)).mono ?_; rintro e w_o ⟨v_o, d_o, rfl, u_o, lo_o, bw_o, bb_o⟩; obtain ⟨a_o, c_o, e_o, f_o, rfl, rfl⟩ := u_o.slices; (try first | with_reducible (have u_q := u_q.below bw_o)); obtain ⟨s0, s1, s2, t0, t1, t2⟩ := HF.out _ bb_o))
      all_goals (have D9 := D_r.out.below (BB.out.trans (bb_q.mono BB.out.size)); obtain ⟨e1, e2⟩ := rat_end (b' := mkB SS XX DD) (B.out.trans (bb_q.mono B.out.size)) D9 (OwnR.base (B' := W0.heap.size) u_q BB.out.size) (by decide) (by have := SZ.out; omega) (by omega) (.slice a_q (mkZ XX DD).length c_q) (.slice e_q (mkD XX DD).length f_q); have D8 := Rx.set3 (b' := mkB SS XX DD) (v' := .slice a_q (mkZ XX DD).length c_q) (d' := .slice e_q (mkD XX DD).length f_q) D9; have hc0 := D8.c0; have hc1 := D8.c1; have hc2 := D8.c2; go_wp2; exact bodyPost_ret (v := .agg #[.bool (mkB SS XX DD), .slice a_q (mkZ XX DD).length c_q, .slice e_q (mkD XX DD).length f_q]) (by simp [results, Try.results38, go_sem, hc0, hc1, hc2]) rfl ⟨_, _, rfl, e1, e2⟩)


set_option maxRecDepth 100000 in
set_option maxHeartbeats 2000000 in
theorem spec_ratMin (b0 : Bool) (v0 : Value) (zs0 : List Int) (d0 : Value) (ds0 : List Int) (b1 : Bool) (v1 : Value) (zs1 : List Int) (d1 : Value) (ds1 : List Int) (w : World) (h0 : RowR w v0 zs0 d0 ds0) (h1 : RowR w v1 zs1 d1 ds1) :
    Calls Try.prog 50 #[.agg #[.bool b0, v0, d0], .agg #[.bool b1, v1, d1]] w fun r w' => ∃ v dd, r = .returned (.agg #[.bool (ratMinB b0 zs0 ds0 b1 zs1 ds1), v, dd]) ∧ OwnR w' w.heap.size v (ratMinZ b0 zs0 ds0 b1 zs1 ds1) dd (ratMinD b0 zs0 ds0 b1 zs1 ds1) ∧ Below w.heap.size w w' := by
  cases q0 : ratOk b0 zs0 ds0 with
  | false =>
    have HE := ratMin_no (b1 := b1) (zs1 := zs1) (ds1 := ds1) (.inl q0)
    rw [HE.1, HE.2.1, HE.2.2]
    have E0 := Lib.hid q0
    clear HE q0
    have H0 := Lib.hid h0
    have H1 := Lib.hid h1
    obtain ⟨⟨a0, c0, rfl, z1, z2, z3⟩, ⟨e0, f0, rfl, z4, z5, z6⟩⟩ := h0
    clear z1 z2 z3 z4 z5 z6
    obtain ⟨⟨a1, c1, rfl, z1, z2, z3⟩, ⟨e1, f1, rfl, z4, z5, z6⟩⟩ := h1
    clear z1 z2 z3 z4 z5 z6
    obtain ⟨nx, hnx⟩ : ∃ n, zs0.length = n := ⟨_, rfl⟩
    rw [hnx] at H0
    try rw [hnx]
    have Nnx := Lib.hid hnx
    clear hnx
    obtain ⟨nd, hnd⟩ : ∃ n, ds0.length = n := ⟨_, rfl⟩
    rw [hnd] at H0
    try rw [hnd]
    have Nnd := Lib.hid hnd
    clear hnd
    obtain ⟨ny, hny⟩ : ∃ n, zs1.length = n := ⟨_, rfl⟩
    rw [hny] at H1
    try rw [hny]
    have Nny := Lib.hid hny
    clear hny
    obtain ⟨ne, hne⟩ : ∃ n, ds1.length = n := ⟨_, rfl⟩
    rw [hne] at H1
    try rw [hne]
    have Nne := Lib.hid hne
    clear hne
    go_enter Try.func50, Try.ntmps50
    go_wp2_with fail
    obtain ⟨W0, hW0⟩ : ∃ x, x = (((w.alloc (.cells #[.bool b0, .slice a0 nx c0, .slice e0 nd f0] 31)).alloc (.cells #[.bool b1, .slice a1 ny c1, .slice e1 ne f1] 31)).alloc (.cells #[.bool false, .slice none 0 0, .slice none 0 0] 31)) := ⟨_, rfl⟩
    have B := Lib.hid (show Below w.heap.size w W0 by rw [hW0]; exact ((((Below.refl _ _).alloc (Nat.le_refl _) _).alloc (by simp) _).alloc (by simp; omega) _))
    have D_x := Lib.hid (rx_at (show Rx W0 _ 31 (b0) (.slice a0 nx c0) (.slice e0 nd f0) by rw [hW0]; exact ((Rx.new _ _ _ _ _).alloc _).alloc _) (show w.heap.size = _ by simp))
    have D_y := Lib.hid (rx_at (show Rx W0 _ 31 (b1) (.slice a1 ny c1) (.slice e1 ne f1) by rw [hW0]; exact (Rx.new _ _ _ _ _).alloc _) (show (w.heap.size + 1) = _ by simp))
    have D_r := Lib.hid (rx_at (show Rx W0 _ 31 (false) (.slice none 0 0) (.slice none 0 0) by rw [hW0]; exact Rx.new _ _ _ _ _) (show (w.heap.size + 1 + 1) = _ by simp))
    have SZ := Lib.hid (show W0.heap.size = w.heap.size + 1 + 1 + 1 by rw [hW0]; simp)
    rw [← hW0]
    clear hW0
    have BB := Lib.hid (Below.refl W0.heap.size W0)
    refine (spec_ratOkR b0 _ zs0 _ ds0 _ _ (H0.out.below B.out) E0.out).mono ?_
    rintro e w1 ⟨rfl, bw1⟩
    replace B := Lib.hid (B.out.trans (bw1.mono B.out.size))
    replace BB := Lib.hid (BB.out.trans (bw1.mono BB.out.size))
    clear bw1
    have c0_r := (D_r.out.below BB.out).c0
    have c1_r := (D_r.out.below BB.out).c1
    have c2_r := (D_r.out.below BB.out).c2
    have f0_r := (D_r.out.below BB.out).f 0
    have f1_r := (D_r.out.below BB.out).f 1
    have f2_r := (D_r.out.below BB.out).f 2
    obtain ⟨e1, e2⟩ := rat_end (b' := false) B.out (D_r.out.below BB.out) (OwnR.nil _ W0.heap.size) (by decide) (by have := SZ.out; omega) (by omega) (.slice none 0 0) (.slice none 0 0)
    have D8 := Rx.set3 (b' := false) (v' := .slice none 0 0) (d' := .slice none 0 0) (D_r.out.below BB.out)
    have hc0 := D8.c0; have hc1 := D8.c1; have hc2 := D8.c2
    go_wp2
    exact bodyPost_ret (v := .agg #[.bool (false), .slice none 0 0, .slice none 0 0]) (by simp [results, Try.results50, go_sem, hc0, hc1, hc2]) rfl ⟨_, _, rfl, e1, e2⟩

  | true =>
    cases q1 : ratOk b1 zs1 ds1 with
    | false =>
      have HE := ratMin_no (b0 := b0) (zs0 := zs0) (ds0 := ds0) (.inr q1)
      rw [HE.1, HE.2.1, HE.2.2]
      have E0 := Lib.hid q0
      have E1 := Lib.hid q1
      clear HE q0 q1
      have H0 := Lib.hid h0
      have H1 := Lib.hid h1
      obtain ⟨⟨a0, c0, rfl, z1, z2, z3⟩, ⟨e0, f0, rfl, z4, z5, z6⟩⟩ := h0
      clear z1 z2 z3 z4 z5 z6
      obtain ⟨⟨a1, c1, rfl, z1, z2, z3⟩, ⟨e1, f1, rfl, z4, z5, z6⟩⟩ := h1
      clear z1 z2 z3 z4 z5 z6
      obtain ⟨nx, hnx⟩ : ∃ n, zs0.length = n := ⟨_, rfl⟩
      rw [hnx] at H0
      try rw [hnx]
      have Nnx := Lib.hid hnx
      clear hnx
      obtain ⟨nd, hnd⟩ : ∃ n, ds0.length = n := ⟨_, rfl⟩
      rw [hnd] at H0
      try rw [hnd]
      have Nnd := Lib.hid hnd
      clear hnd
      obtain ⟨ny, hny⟩ : ∃ n, zs1.length = n := ⟨_, rfl⟩
      rw [hny] at H1
      try rw [hny]
      have Nny := Lib.hid hny
      clear hny
      obtain ⟨ne, hne⟩ : ∃ n, ds1.length = n := ⟨_, rfl⟩
      rw [hne] at H1
      try rw [hne]
      have Nne := Lib.hid hne
      clear hne
      go_enter Try.func50, Try.ntmps50
      go_wp2_with fail
      obtain ⟨W0, hW0⟩ : ∃ x, x = (((w.alloc (.cells #[.bool b0, .slice a0 nx c0, .slice e0 nd f0] 31)).alloc (.cells #[.bool b1, .slice a1 ny c1, .slice e1 ne f1] 31)).alloc (.cells #[.bool false, .slice none 0 0, .slice none 0 0] 31)) := ⟨_, rfl⟩
      have B := Lib.hid (show Below w.heap.size w W0 by rw [hW0]; exact ((((Below.refl _ _).alloc (Nat.le_refl _) _).alloc (by simp) _).alloc (by simp; omega) _))
      have D_x := Lib.hid (rx_at (show Rx W0 _ 31 (b0) (.slice a0 nx c0) (.slice e0 nd f0) by rw [hW0]; exact ((Rx.new _ _ _ _ _).alloc _).alloc _) (show w.heap.size = _ by simp))
      have D_y := Lib.hid (rx_at (show Rx W0 _ 31 (b1) (.slice a1 ny c1) (.slice e1 ne f1) by rw [hW0]; exact (Rx.new _ _ _ _ _).alloc _) (show (w.heap.size + 1) = _ by simp))
      have D_r := Lib.hid (rx_at (show Rx W0 _ 31 (false) (.slice none 0 0) (.slice none 0 0) by rw [hW0]; exact Rx.new _ _ _ _ _) (show (w.heap.size + 1 + 1) = _ by simp))
      have SZ := Lib.hid (show W0.heap.size = w.heap.size + 1 + 1 + 1 by rw [hW0]; simp)
      rw [← hW0]
      clear hW0
      have BB := Lib.hid (Below.refl W0.heap.size W0)
      refine (spec_ratOkR b0 _ zs0 _ ds0 _ _ (H0.out.below B.out) E0.out).mono ?_
      rintro e w1 ⟨rfl, bw1⟩
      replace B := Lib.hid (B.out.trans (bw1.mono B.out.size))
      replace BB := Lib.hid (BB.out.trans (bw1.mono BB.out.size))
      clear bw1
      have c0_y := (D_y.out.below BB.out).c0
      have c1_y := (D_y.out.below BB.out).c1
      have c2_y := (D_y.out.below BB.out).c2
      go_wp2_with fail
      clear c0_y c1_y c2_y
      refine (spec_ratOkR b1 _ zs1 _ ds1 _ _ (H1.out.below B.out) E1.out).mono ?_
      rintro e w2 ⟨rfl, bw2⟩
      replace B := Lib.hid (B.out.trans (bw2.mono B.out.size))
      replace BB := Lib.hid (BB.out.trans (bw2.mono BB.out.size))
      clear bw2
      have c0_r := (D_r.out.below BB.out).c0
      have c1_r := (D_r.out.below BB.out).c1
      have c2_r := (D_r.out.below BB.out).c2
      have f0_r := (D_r.out.below BB.out).f 0
      have f1_r := (D_r.out.below BB.out).f 1
      have f2_r := (D_r.out.below BB.out).f 2
      obtain ⟨e1, e2⟩ := rat_end (b' := false) B.out (D_r.out.below BB.out) (OwnR.nil _ W0.heap.size) (by decide) (by have := SZ.out; omega) (by omega) (.slice none 0 0) (.slice none 0 0)
      have D8 := Rx.set3 (b' := false) (v' := .slice none 0 0) (d' := .slice none 0 0) (D_r.out.below BB.out)
      have hc0 := D8.c0; have hc1 := D8.c1; have hc2 := D8.c2
      go_wp2
      exact bodyPost_ret (v := .agg #[.bool (false), .slice none 0 0, .slice none 0 0]) (by simp [results, Try.results50, go_sem, hc0, hc1, hc2]) rfl ⟨_, _, rfl, e1, e2⟩

    | true =>
      obtain ⟨x, d, rfl, rfl, hx, hd, hd0, g0, n0⟩ := ratOk_parts q0
      obtain ⟨y, e, rfl, rfl, hy, he, he0, g1, n1⟩ := ratOk_parts q1
      have HE := ratMin_yes q0 q1
      rw [HE.1, HE.2.1, HE.2.2]
      have E0 := Lib.hid q0
      have E1 := Lib.hid q1
      have CH := Lib.hid (And.intro hx (And.intro hd (And.intro hy (And.intro he (And.intro hd0 (And.intro he0 (And.intro g0 (And.intro g1 (And.intro n0 n1)))))))))
      clear HE q0 q1 hx hd hy he hd0 he0 g0 g1 n0 n1
      by_cases ht : sgCmp b1 (y * d) b0 (x * e) < 0
      · have hs : secB true (sgCmp b1 (y * d) b0 (x * e)) = true := by unfold secB; simpa using ht
        rw [hs, if_pos rfl, if_pos rfl, if_pos rfl]
        obtain ⟨cm, hcm⟩ : ∃ c, sgCmp b0 (x * e) b1 (y * d) = c := ⟨_, rfl⟩
        have HT : 0 < cm := by rw [sgCmp_swap b0 (x * e) b1 (y * d), hcm] at ht; omega
        have hdec : decide (cm ≤ 0) = false := by simp; omega
        have HC := Lib.hid hcm
        clear ht hs hcm
        have H0 := Lib.hid h0
        have H1 := Lib.hid h1
        obtain ⟨⟨a0, c0, rfl, z1, z2, z3⟩, ⟨e0, f0, rfl, z4, z5, z6⟩⟩ := h0
        clear z1 z2 z3 z4 z5 z6
        obtain ⟨⟨a1, c1, rfl, z1, z2, z3⟩, ⟨e1, f1, rfl, z4, z5, z6⟩⟩ := h1
        clear z1 z2 z3 z4 z5 z6
        obtain ⟨nx, hnx⟩ : ∃ n, (limI x).length = n := ⟨_, rfl⟩
        rw [hnx] at H0
        try rw [hnx]
        have Nnx := Lib.hid hnx
        clear hnx
        obtain ⟨nd, hnd⟩ : ∃ n, (limI d).length = n := ⟨_, rfl⟩
        rw [hnd] at H0
        try rw [hnd]
        have Nnd := Lib.hid hnd
        clear hnd
        obtain ⟨ny, hny⟩ : ∃ n, (limI y).length = n := ⟨_, rfl⟩
        rw [hny] at H1
        try rw [hny]
        have Nny := Lib.hid hny
        clear hny
        obtain ⟨ne, hne⟩ : ∃ n, (limI e).length = n := ⟨_, rfl⟩
        rw [hne] at H1
        try rw [hne]
        have Nne := Lib.hid hne
        clear hne
        go_enter Try.func50, Try.ntmps50
        go_wp2_with fail
        obtain ⟨W0, hW0⟩ : ∃ x, x = (((w.alloc (.cells #[.bool b0, .slice a0 nx c0, .slice e0 nd f0] 31)).alloc (.cells #[.bool b1, .slice a1 ny c1, .slice e1 ne f1] 31)).alloc (.cells #[.bool false, .slice none 0 0, .slice none 0 0] 31)) := ⟨_, rfl⟩
        have B := Lib.hid (show Below w.heap.size w W0 by rw [hW0]; exact ((((Below.refl _ _).alloc (Nat.le_refl _) _).alloc (by simp) _).alloc (by simp; omega) _))
        have D_x := Lib.hid (rx_at (show Rx W0 _ 31 (b0) (.slice a0 nx c0) (.slice e0 nd f0) by rw [hW0]; exact ((Rx.new _ _ _ _ _).alloc _).alloc _) (show w.heap.size = _ by simp))
        have D_y := Lib.hid (rx_at (show Rx W0 _ 31 (b1) (.slice a1 ny c1) (.slice e1 ne f1) by rw [hW0]; exact (Rx.new _ _ _ _ _).alloc _) (show (w.heap.size + 1) = _ by simp))
        have D_r := Lib.hid (rx_at (show Rx W0 _ 31 (false) (.slice none 0 0) (.slice none 0 0) by rw [hW0]; exact Rx.new _ _ _ _ _) (show (w.heap.size + 1 + 1) = _ by simp))
        have SZ := Lib.hid (show W0.heap.size = w.heap.size + 1 + 1 + 1 by rw [hW0]; simp)
        rw [← hW0]
        clear hW0
        have BB := Lib.hid (Below.refl W0.heap.size W0)
        refine (spec_ratOkR b0 _ (limI x) _ (limI d) _ _ (H0.out.below B.out) E0.out).mono ?_
        rintro e w1 ⟨rfl, bw1⟩
        replace B := Lib.hid (B.out.trans (bw1.mono B.out.size))
        replace BB := Lib.hid (BB.out.trans (bw1.mono BB.out.size))
        clear bw1
        have c0_y := (D_y.out.below BB.out).c0
        have c1_y := (D_y.out.below BB.out).c1
        have c2_y := (D_y.out.below BB.out).c2
        go_wp2_with fail
        clear c0_y c1_y c2_y
        refine (spec_ratOkR b1 _ (limI y) _ (limI e) _ _ (H1.out.below B.out) E1.out).mono ?_
        rintro e w2 ⟨rfl, bw2⟩
        replace B := Lib.hid (B.out.trans (bw2.mono B.out.size))
        replace BB := Lib.hid (BB.out.trans (bw2.mono BB.out.size))
        clear bw2
        have c0_x := (D_x.out.below BB.out).c0
        have c1_x := (D_x.out.below BB.out).c1
        have c2_x := (D_x.out.below BB.out).c2
        have c0_y := (D_y.out.below BB.out).c0
        have c1_y := (D_y.out.below BB.out).c1
        have c2_y := (D_y.out.below BB.out).c2
        go_wp2_with fail
        clear c0_x c1_x c2_x
        clear c0_y c1_y c2_y
        have hc9 := spec_cmpR b0 _ x _ d b1 _ y _ e w2 (H0.out.below B.out) (H1.out.below B.out) CH.out.1 CH.out.2.1 CH.out.2.2.1 CH.out.2.2.2.1 CH.out.2.2.2.2.1 CH.out.2.2.2.2.2.1 CH.out.2.2.2.2.2.2.1 CH.out.2.2.2.2.2.2.2.1 CH.out.2.2.2.2.2.2.2.2.1 CH.out.2.2.2.2.2.2.2.2.2
        rw [HC.out] at hc9
        refine (hc9).mono ?_
        rintro e w3 ⟨rfl, bw3⟩
        replace B := Lib.hid (B.out.trans (bw3.mono B.out.size))
        replace BB := Lib.hid (BB.out.trans (bw3.mono BB.out.size))
        clear bw3
        have c0_x := (D_x.out.below BB.out).c0
        have c1_x := (D_x.out.below BB.out).c1
        have c2_x := (D_x.out.below BB.out).c2
        have c0_y := (D_y.out.below BB.out).c0
        have c1_y := (D_y.out.below BB.out).c1
        have c2_y := (D_y.out.below BB.out).c2
        go_wp2_with fail
        clear c0_x c1_x c2_x
        clear c0_y c1_y c2_y
        refine (spec_copy b1 _ y _ e _ (H1.out.below B.out) CH.out.2.2.1 CH.out.2.2.2.1).mono ?_
        rintro e w4 ⟨v_q, d_q, rfl, u_q, bw4⟩
        obtain ⟨a_q, c_q, e_q, f_q, rfl, rfl⟩ := u_q.slices
        have hb5 := BB.out.size
        replace B := Lib.hid (B.out.trans (bw4.mono B.out.size))
        replace BB := Lib.hid (BB.out.trans (bw4.mono BB.out.size))
        clear bw4
        have c0_r := (D_r.out.below BB.out).c0
        have c1_r := (D_r.out.below BB.out).c1
        have c2_r := (D_r.out.below BB.out).c2
        have f0_r := (D_r.out.below BB.out).f 0
        have f1_r := (D_r.out.below BB.out).f 1
        have f2_r := (D_r.out.below BB.out).f 2
        obtain ⟨e1, e2⟩ := rat_end (b' := b1) B.out (D_r.out.below BB.out) (OwnR.base (B' := W0.heap.size) u_q hb5) (by decide) (by have := SZ.out; omega) (by omega) (.slice a_q (limI y).length c_q) (.slice e_q (limI e).length f_q)
        have D8 := Rx.set3 (b' := b1) (v' := .slice a_q (limI y).length c_q) (d' := .slice e_q (limI e).length f_q) (D_r.out.below BB.out)
        have hc0 := D8.c0; have hc1 := D8.c1; have hc2 := D8.c2
        go_wp2
        exact bodyPost_ret (v := .agg #[.bool (b1), .slice a_q (limI y).length c_q, .slice e_q (limI e).length f_q]) (by simp [results, Try.results50, go_sem, hc0, hc1, hc2]) rfl ⟨_, _, rfl, e1, e2⟩

      · have hs : secB true (sgCmp b1 (y * d) b0 (x * e)) = false := by unfold secB; simpa using ht
        rw [hs, if_neg (by decide), if_neg (by decide), if_neg (by decide)]
        obtain ⟨cm, hcm⟩ : ∃ c, sgCmp b0 (x * e) b1 (y * d) = c := ⟨_, rfl⟩
        have HT : cm ≤ 0 := by rw [sgCmp_swap b0 (x * e) b1 (y * d), hcm] at ht; omega
        have hdec : decide (cm ≤ 0) = true := by simp; omega
        have HC := Lib.hid hcm
        clear ht hs hcm
        have H0 := Lib.hid h0
        have H1 := Lib.hid h1
        obtain ⟨⟨a0, c0, rfl, z1, z2, z3⟩, ⟨e0, f0, rfl, z4, z5, z6⟩⟩ := h0
        clear z1 z2 z3 z4 z5 z6
        obtain ⟨⟨a1, c1, rfl, z1, z2, z3⟩, ⟨e1, f1, rfl, z4, z5, z6⟩⟩ := h1
        clear z1 z2 z3 z4 z5 z6
        obtain ⟨nx, hnx⟩ : ∃ n, (limI x).length = n := ⟨_, rfl⟩
        rw [hnx] at H0
        try rw [hnx]
        have Nnx := Lib.hid hnx
        clear hnx
        obtain ⟨nd, hnd⟩ : ∃ n, (limI d).length = n := ⟨_, rfl⟩
        rw [hnd] at H0
        try rw [hnd]
        have Nnd := Lib.hid hnd
        clear hnd
        obtain ⟨ny, hny⟩ : ∃ n, (limI y).length = n := ⟨_, rfl⟩
        rw [hny] at H1
        try rw [hny]
        have Nny := Lib.hid hny
        clear hny
        obtain ⟨ne, hne⟩ : ∃ n, (limI e).length = n := ⟨_, rfl⟩
        rw [hne] at H1
        try rw [hne]
        have Nne := Lib.hid hne
        clear hne
        go_enter Try.func50, Try.ntmps50
        go_wp2_with fail
        obtain ⟨W0, hW0⟩ : ∃ x, x = (((w.alloc (.cells #[.bool b0, .slice a0 nx c0, .slice e0 nd f0] 31)).alloc (.cells #[.bool b1, .slice a1 ny c1, .slice e1 ne f1] 31)).alloc (.cells #[.bool false, .slice none 0 0, .slice none 0 0] 31)) := ⟨_, rfl⟩
        have B := Lib.hid (show Below w.heap.size w W0 by rw [hW0]; exact ((((Below.refl _ _).alloc (Nat.le_refl _) _).alloc (by simp) _).alloc (by simp; omega) _))
        have D_x := Lib.hid (rx_at (show Rx W0 _ 31 (b0) (.slice a0 nx c0) (.slice e0 nd f0) by rw [hW0]; exact ((Rx.new _ _ _ _ _).alloc _).alloc _) (show w.heap.size = _ by simp))
        have D_y := Lib.hid (rx_at (show Rx W0 _ 31 (b1) (.slice a1 ny c1) (.slice e1 ne f1) by rw [hW0]; exact (Rx.new _ _ _ _ _).alloc _) (show (w.heap.size + 1) = _ by simp))
        have D_r := Lib.hid (rx_at (show Rx W0 _ 31 (false) (.slice none 0 0) (.slice none 0 0) by rw [hW0]; exact Rx.new _ _ _ _ _) (show (w.heap.size + 1 + 1) = _ by simp))
        have SZ := Lib.hid (show W0.heap.size = w.heap.size + 1 + 1 + 1 by rw [hW0]; simp)
        rw [← hW0]
        clear hW0
        have BB := Lib.hid (Below.refl W0.heap.size W0)
        refine (spec_ratOkR b0 _ (limI x) _ (limI d) _ _ (H0.out.below B.out) E0.out).mono ?_
        rintro e w1 ⟨rfl, bw1⟩
        replace B := Lib.hid (B.out.trans (bw1.mono B.out.size))
        replace BB := Lib.hid (BB.out.trans (bw1.mono BB.out.size))
        clear bw1
        have c0_y := (D_y.out.below BB.out).c0
        have c1_y := (D_y.out.below BB.out).c1
        have c2_y := (D_y.out.below BB.out).c2
        go_wp2_with fail
        clear c0_y c1_y c2_y
        refine (spec_ratOkR b1 _ (limI y) _ (limI e) _ _ (H1.out.below B.out) E1.out).mono ?_
        rintro e w2 ⟨rfl, bw2⟩
        replace B := Lib.hid (B.out.trans (bw2.mono B.out.size))
        replace BB := Lib.hid (BB.out.trans (bw2.mono BB.out.size))
        clear bw2
        have c0_x := (D_x.out.below BB.out).c0
        have c1_x := (D_x.out.below BB.out).c1
        have c2_x := (D_x.out.below BB.out).c2
        have c0_y := (D_y.out.below BB.out).c0
        have c1_y := (D_y.out.below BB.out).c1
        have c2_y := (D_y.out.below BB.out).c2
        go_wp2_with fail
        clear c0_x c1_x c2_x
        clear c0_y c1_y c2_y
        have hc9 := spec_cmpR b0 _ x _ d b1 _ y _ e w2 (H0.out.below B.out) (H1.out.below B.out) CH.out.1 CH.out.2.1 CH.out.2.2.1 CH.out.2.2.2.1 CH.out.2.2.2.2.1 CH.out.2.2.2.2.2.1 CH.out.2.2.2.2.2.2.1 CH.out.2.2.2.2.2.2.2.1 CH.out.2.2.2.2.2.2.2.2.1 CH.out.2.2.2.2.2.2.2.2.2
        rw [HC.out] at hc9
        refine (hc9).mono ?_
        rintro e w3 ⟨rfl, bw3⟩
        replace B := Lib.hid (B.out.trans (bw3.mono B.out.size))
        replace BB := Lib.hid (BB.out.trans (bw3.mono BB.out.size))
        clear bw3
        have c0_x := (D_x.out.below BB.out).c0
        have c1_x := (D_x.out.below BB.out).c1
        have c2_x := (D_x.out.below BB.out).c2
        have c0_y := (D_y.out.below BB.out).c0
        have c1_y := (D_y.out.below BB.out).c1
        have c2_y := (D_y.out.below BB.out).c2
        go_wp2_with fail
        clear c0_x c1_x c2_x
        clear c0_y c1_y c2_y
        refine (spec_copy b0 _ x _ d _ (H0.out.below B.out) CH.out.1 CH.out.2.1).mono ?_
        rintro e w4 ⟨v_q, d_q, rfl, u_q, bw4⟩
        obtain ⟨a_q, c_q, e_q, f_q, rfl, rfl⟩ := u_q.slices
        have hb5 := BB.out.size
        replace B := Lib.hid (B.out.trans (bw4.mono B.out.size))
        replace BB := Lib.hid (BB.out.trans (bw4.mono BB.out.size))
        clear bw4
        have c0_r := (D_r.out.below BB.out).c0
        have c1_r := (D_r.out.below BB.out).c1
        have c2_r := (D_r.out.below BB.out).c2
        have f0_r := (D_r.out.below BB.out).f 0
        have f1_r := (D_r.out.below BB.out).f 1
        have f2_r := (D_r.out.below BB.out).f 2
        obtain ⟨e1, e2⟩ := rat_end (b' := b0) B.out (D_r.out.below BB.out) (OwnR.base (B' := W0.heap.size) u_q hb5) (by decide) (by have := SZ.out; omega) (by omega) (.slice a_q (limI x).length c_q) (.slice e_q (limI d).length f_q)
        have D8 := Rx.set3 (b' := b0) (v' := .slice a_q (limI x).length c_q) (d' := .slice e_q (limI d).length f_q) (D_r.out.below BB.out)
        have hc0 := D8.c0; have hc1 := D8.c1; have hc2 := D8.c2
        go_wp2
        exact bodyPost_ret (v := .agg #[.bool (b0), .slice a_q (limI x).length c_q, .slice e_q (limI d).length f_q]) (by simp [results, Try.results50, go_sem, hc0, hc1, hc2]) rfl ⟨_, _, rfl, e1, e2⟩


set_option maxRecDepth 100000 in
set_option maxHeartbeats 2000000 in
theorem spec_ratMax (b0 : Bool) (v0 : Value) (zs0 : List Int) (d0 : Value) (ds0 : List Int) (b1 : Bool) (v1 : Value) (zs1 : List Int) (d1 : Value) (ds1 : List Int) (w : World) (h0 : RowR w v0 zs0 d0 ds0) (h1 : RowR w v1 zs1 d1 ds1) :
    Calls Try.prog 52 #[.agg #[.bool b0, v0, d0], .agg #[.bool b1, v1, d1]] w fun r w' => ∃ v dd, r = .returned (.agg #[.bool (ratMaxB b0 zs0 ds0 b1 zs1 ds1), v, dd]) ∧ OwnR w' w.heap.size v (ratMaxZ b0 zs0 ds0 b1 zs1 ds1) dd (ratMaxD b0 zs0 ds0 b1 zs1 ds1) ∧ Below w.heap.size w w' := by
  cases q0 : ratOk b0 zs0 ds0 with
  | false =>
    have HE := ratMax_no (b1 := b1) (zs1 := zs1) (ds1 := ds1) (.inl q0)
    rw [HE.1, HE.2.1, HE.2.2]
    have E0 := Lib.hid q0
    clear HE q0
    have H0 := Lib.hid h0
    have H1 := Lib.hid h1
    obtain ⟨⟨a0, c0, rfl, z1, z2, z3⟩, ⟨e0, f0, rfl, z4, z5, z6⟩⟩ := h0
    clear z1 z2 z3 z4 z5 z6
    obtain ⟨⟨a1, c1, rfl, z1, z2, z3⟩, ⟨e1, f1, rfl, z4, z5, z6⟩⟩ := h1
    clear z1 z2 z3 z4 z5 z6
    obtain ⟨nx, hnx⟩ : ∃ n, zs0.length = n := ⟨_, rfl⟩
    rw [hnx] at H0
    try rw [hnx]
    have Nnx := Lib.hid hnx
    clear hnx
    obtain ⟨nd, hnd⟩ : ∃ n, ds0.length = n := ⟨_, rfl⟩
    rw [hnd] at H0
    try rw [hnd]
    have Nnd := Lib.hid hnd
    clear hnd
    obtain ⟨ny, hny⟩ : ∃ n, zs1.length = n := ⟨_, rfl⟩
    rw [hny] at H1
    try rw [hny]
    have Nny := Lib.hid hny
    clear hny
    obtain ⟨ne, hne⟩ : ∃ n, ds1.length = n := ⟨_, rfl⟩
    rw [hne] at H1
    try rw [hne]
    have Nne := Lib.hid hne
    clear hne
    go_enter Try.func52, Try.ntmps52
    go_wp2_with fail
    obtain ⟨W0, hW0⟩ : ∃ x, x = (((w.alloc (.cells #[.bool b0, .slice a0 nx c0, .slice e0 nd f0] 31)).alloc (.cells #[.bool b1, .slice a1 ny c1, .slice e1 ne f1] 31)).alloc (.cells #[.bool false, .slice none 0 0, .slice none 0 0] 31)) := ⟨_, rfl⟩
    have B := Lib.hid (show Below w.heap.size w W0 by rw [hW0]; exact ((((Below.refl _ _).alloc (Nat.le_refl _) _).alloc (by simp) _).alloc (by simp; omega) _))
    have D_x := Lib.hid (rx_at (show Rx W0 _ 31 (b0) (.slice a0 nx c0) (.slice e0 nd f0) by rw [hW0]; exact ((Rx.new _ _ _ _ _).alloc _).alloc _) (show w.heap.size = _ by simp))
    have D_y := Lib.hid (rx_at (show Rx W0 _ 31 (b1) (.slice a1 ny c1) (.slice e1 ne f1) by rw [hW0]; exact (Rx.new _ _ _ _ _).alloc _) (show (w.heap.size + 1) = _ by simp))
    have D_r := Lib.hid (rx_at (show Rx W0 _ 31 (false) (.slice none 0 0) (.slice none 0 0) by rw [hW0]; exact Rx.new _ _ _ _ _) (show (w.heap.size + 1 + 1) = _ by simp))
    have SZ := Lib.hid (show W0.heap.size = w.heap.size + 1 + 1 + 1 by rw [hW0]; simp)
    rw [← hW0]
    clear hW0
    have BB := Lib.hid (Below.refl W0.heap.size W0)
    refine (spec_ratOkR b0 _ zs0 _ ds0 _ _ (H0.out.below B.out) E0.out).mono ?_
    rintro e w1 ⟨rfl, bw1⟩
    replace B := Lib.hid (B.out.trans (bw1.mono B.out.size))
    replace BB := Lib.hid (BB.out.trans (bw1.mono BB.out.size))
    clear bw1
    have c0_r := (D_r.out.below BB.out).c0
    have c1_r := (D_r.out.below BB.out).c1
    have c2_r := (D_r.out.below BB.out).c2
    have f0_r := (D_r.out.below BB.out).f 0
    have f1_r := (D_r.out.below BB.out).f 1
    have f2_r := (D_r.out.below BB.out).f 2
    obtain ⟨e1, e2⟩ := rat_end (b' := false) B.out (D_r.out.below BB.out) (OwnR.nil _ W0.heap.size) (by decide) (by have := SZ.out; omega) (by omega) (.slice none 0 0) (.slice none 0 0)
    have D8 := Rx.set3 (b' := false) (v' := .slice none 0 0) (d' := .slice none 0 0) (D_r.out.below BB.out)
    have hc0 := D8.c0; have hc1 := D8.c1; have hc2 := D8.c2
    go_wp2
    exact bodyPost_ret (v := .agg #[.bool (false), .slice none 0 0, .slice none 0 0]) (by simp [results, Try.results52, go_sem, hc0, hc1, hc2]) rfl ⟨_, _, rfl, e1, e2⟩

  | true =>
    cases q1 : ratOk b1 zs1 ds1 with
    | false =>
      have HE := ratMax_no (b0 := b0) (zs0 := zs0) (ds0 := ds0) (.inr q1)
      rw [HE.1, HE.2.1, HE.2.2]
      have E0 := Lib.hid q0
      have E1 := Lib.hid q1
      clear HE q0 q1
      have H0 := Lib.hid h0
      have H1 := Lib.hid h1
      obtain ⟨⟨a0, c0, rfl, z1, z2, z3⟩, ⟨e0, f0, rfl, z4, z5, z6⟩⟩ := h0
      clear z1 z2 z3 z4 z5 z6
      obtain ⟨⟨a1, c1, rfl, z1, z2, z3⟩, ⟨e1, f1, rfl, z4, z5, z6⟩⟩ := h1
      clear z1 z2 z3 z4 z5 z6
      obtain ⟨nx, hnx⟩ : ∃ n, zs0.length = n := ⟨_, rfl⟩
      rw [hnx] at H0
      try rw [hnx]
      have Nnx := Lib.hid hnx
      clear hnx
      obtain ⟨nd, hnd⟩ : ∃ n, ds0.length = n := ⟨_, rfl⟩
      rw [hnd] at H0
      try rw [hnd]
      have Nnd := Lib.hid hnd
      clear hnd
      obtain ⟨ny, hny⟩ : ∃ n, zs1.length = n := ⟨_, rfl⟩
      rw [hny] at H1
      try rw [hny]
      have Nny := Lib.hid hny
      clear hny
      obtain ⟨ne, hne⟩ : ∃ n, ds1.length = n := ⟨_, rfl⟩
      rw [hne] at H1
      try rw [hne]
      have Nne := Lib.hid hne
      clear hne
      go_enter Try.func52, Try.ntmps52
      go_wp2_with fail
      obtain ⟨W0, hW0⟩ : ∃ x, x = (((w.alloc (.cells #[.bool b0, .slice a0 nx c0, .slice e0 nd f0] 31)).alloc (.cells #[.bool b1, .slice a1 ny c1, .slice e1 ne f1] 31)).alloc (.cells #[.bool false, .slice none 0 0, .slice none 0 0] 31)) := ⟨_, rfl⟩
      have B := Lib.hid (show Below w.heap.size w W0 by rw [hW0]; exact ((((Below.refl _ _).alloc (Nat.le_refl _) _).alloc (by simp) _).alloc (by simp; omega) _))
      have D_x := Lib.hid (rx_at (show Rx W0 _ 31 (b0) (.slice a0 nx c0) (.slice e0 nd f0) by rw [hW0]; exact ((Rx.new _ _ _ _ _).alloc _).alloc _) (show w.heap.size = _ by simp))
      have D_y := Lib.hid (rx_at (show Rx W0 _ 31 (b1) (.slice a1 ny c1) (.slice e1 ne f1) by rw [hW0]; exact (Rx.new _ _ _ _ _).alloc _) (show (w.heap.size + 1) = _ by simp))
      have D_r := Lib.hid (rx_at (show Rx W0 _ 31 (false) (.slice none 0 0) (.slice none 0 0) by rw [hW0]; exact Rx.new _ _ _ _ _) (show (w.heap.size + 1 + 1) = _ by simp))
      have SZ := Lib.hid (show W0.heap.size = w.heap.size + 1 + 1 + 1 by rw [hW0]; simp)
      rw [← hW0]
      clear hW0
      have BB := Lib.hid (Below.refl W0.heap.size W0)
      refine (spec_ratOkR b0 _ zs0 _ ds0 _ _ (H0.out.below B.out) E0.out).mono ?_
      rintro e w1 ⟨rfl, bw1⟩
      replace B := Lib.hid (B.out.trans (bw1.mono B.out.size))
      replace BB := Lib.hid (BB.out.trans (bw1.mono BB.out.size))
      clear bw1
      have c0_y := (D_y.out.below BB.out).c0
      have c1_y := (D_y.out.below BB.out).c1
      have c2_y := (D_y.out.below BB.out).c2
      go_wp2_with fail
      clear c0_y c1_y c2_y
      refine (spec_ratOkR b1 _ zs1 _ ds1 _ _ (H1.out.below B.out) E1.out).mono ?_
      rintro e w2 ⟨rfl, bw2⟩
      replace B := Lib.hid (B.out.trans (bw2.mono B.out.size))
      replace BB := Lib.hid (BB.out.trans (bw2.mono BB.out.size))
      clear bw2
      have c0_r := (D_r.out.below BB.out).c0
      have c1_r := (D_r.out.below BB.out).c1
      have c2_r := (D_r.out.below BB.out).c2
      have f0_r := (D_r.out.below BB.out).f 0
      have f1_r := (D_r.out.below BB.out).f 1
      have f2_r := (D_r.out.below BB.out).f 2
      obtain ⟨e1, e2⟩ := rat_end (b' := false) B.out (D_r.out.below BB.out) (OwnR.nil _ W0.heap.size) (by decide) (by have := SZ.out; omega) (by omega) (.slice none 0 0) (.slice none 0 0)
      have D8 := Rx.set3 (b' := false) (v' := .slice none 0 0) (d' := .slice none 0 0) (D_r.out.below BB.out)
      have hc0 := D8.c0; have hc1 := D8.c1; have hc2 := D8.c2
      go_wp2
      exact bodyPost_ret (v := .agg #[.bool (false), .slice none 0 0, .slice none 0 0]) (by simp [results, Try.results52, go_sem, hc0, hc1, hc2]) rfl ⟨_, _, rfl, e1, e2⟩

    | true =>
      obtain ⟨x, d, rfl, rfl, hx, hd, hd0, g0, n0⟩ := ratOk_parts q0
      obtain ⟨y, e, rfl, rfl, hy, he, he0, g1, n1⟩ := ratOk_parts q1
      have HE := ratMax_yes q0 q1
      rw [HE.1, HE.2.1, HE.2.2]
      have E0 := Lib.hid q0
      have E1 := Lib.hid q1
      have CH := Lib.hid (And.intro hx (And.intro hd (And.intro hy (And.intro he (And.intro hd0 (And.intro he0 (And.intro g0 (And.intro g1 (And.intro n0 n1)))))))))
      clear HE q0 q1 hx hd hy he hd0 he0 g0 g1 n0 n1
      by_cases ht : 0 < sgCmp b1 (y * d) b0 (x * e)
      · have hs : secB false (sgCmp b1 (y * d) b0 (x * e)) = true := by unfold secB; simpa using ht
        rw [hs, if_pos rfl, if_pos rfl, if_pos rfl]
        obtain ⟨cm, hcm⟩ : ∃ c, sgCmp b0 (x * e) b1 (y * d) = c := ⟨_, rfl⟩
        have HT : cm < 0 := by rw [sgCmp_swap b0 (x * e) b1 (y * d), hcm] at ht; omega
        have hdec : decide (0 ≤ cm) = false := by simp; omega
        have HC := Lib.hid hcm
        clear ht hs hcm
        have H0 := Lib.hid h0
        have H1 := Lib.hid h1
        obtain ⟨⟨a0, c0, rfl, z1, z2, z3⟩, ⟨e0, f0, rfl, z4, z5, z6⟩⟩ := h0
        clear z1 z2 z3 z4 z5 z6
        obtain ⟨⟨a1, c1, rfl, z1, z2, z3⟩, ⟨e1, f1, rfl, z4, z5, z6⟩⟩ := h1
        clear z1 z2 z3 z4 z5 z6
        obtain ⟨nx, hnx⟩ : ∃ n, (limI x).length = n := ⟨_, rfl⟩
        rw [hnx] at H0
        try rw [hnx]
        have Nnx := Lib.hid hnx
        clear hnx
        obtain ⟨nd, hnd⟩ : ∃ n, (limI d).length = n := ⟨_, rfl⟩
        rw [hnd] at H0
        try rw [hnd]
        have Nnd := Lib.hid hnd
        clear hnd
        obtain ⟨ny, hny⟩ : ∃ n, (limI y).length = n := ⟨_, rfl⟩
        rw [hny] at H1
        try rw [hny]
        have Nny := Lib.hid hny
        clear hny
        obtain ⟨ne, hne⟩ : ∃ n, (limI e).length = n := ⟨_, rfl⟩
        rw [hne] at H1
        try rw [hne]
        have Nne := Lib.hid hne
        clear hne
        go_enter Try.func52, Try.ntmps52
        go_wp2_with fail
        obtain ⟨W0, hW0⟩ : ∃ x, x = (((w.alloc (.cells #[.bool b0, .slice a0 nx c0, .slice e0 nd f0] 31)).alloc (.cells #[.bool b1, .slice a1 ny c1, .slice e1 ne f1] 31)).alloc (.cells #[.bool false, .slice none 0 0, .slice none 0 0] 31)) := ⟨_, rfl⟩
        have B := Lib.hid (show Below w.heap.size w W0 by rw [hW0]; exact ((((Below.refl _ _).alloc (Nat.le_refl _) _).alloc (by simp) _).alloc (by simp; omega) _))
        have D_x := Lib.hid (rx_at (show Rx W0 _ 31 (b0) (.slice a0 nx c0) (.slice e0 nd f0) by rw [hW0]; exact ((Rx.new _ _ _ _ _).alloc _).alloc _) (show w.heap.size = _ by simp))
        have D_y := Lib.hid (rx_at (show Rx W0 _ 31 (b1) (.slice a1 ny c1) (.slice e1 ne f1) by rw [hW0]; exact (Rx.new _ _ _ _ _).alloc _) (show (w.heap.size + 1) = _ by simp))
        have D_r := Lib.hid (rx_at (show Rx W0 _ 31 (false) (.slice none 0 0) (.slice none 0 0) by rw [hW0]; exact Rx.new _ _ _ _ _) (show (w.heap.size + 1 + 1) = _ by simp))
        have SZ := Lib.hid (show W0.heap.size = w.heap.size + 1 + 1 + 1 by rw [hW0]; simp)
        rw [← hW0]
        clear hW0
        have BB := Lib.hid (Below.refl W0.heap.size W0)
        refine (spec_ratOkR b0 _ (limI x) _ (limI d) _ _ (H0.out.below B.out) E0.out).mono ?_
        rintro e w1 ⟨rfl, bw1⟩
        replace B := Lib.hid (B.out.trans (bw1.mono B.out.size))
        replace BB := Lib.hid (BB.out.trans (bw1.mono BB.out.size))
        clear bw1
        have c0_y := (D_y.out.below BB.out).c0
        have c1_y := (D_y.out.below BB.out).c1
        have c2_y := (D_y.out.below BB.out).c2
        go_wp2_with fail
        clear c0_y c1_y c2_y
        refine (spec_ratOkR b1 _ (limI y) _ (limI e) _ _ (H1.out.below B.out) E1.out).mono ?_
        rintro e w2 ⟨rfl, bw2⟩
        replace B := Lib.hid (B.out.trans (bw2.mono B.out.size))
        replace BB := Lib.hid (BB.out.trans (bw2.mono BB.out.size))
        clear bw2
        have c0_x := (D_x.out.below BB.out).c0
        have c1_x := (D_x.out.below BB.out).c1
        have c2_x := (D_x.out.below BB.out).c2
        have c0_y := (D_y.out.below BB.out).c0
        have c1_y := (D_y.out.below BB.out).c1
        have c2_y := (D_y.out.below BB.out).c2
        go_wp2_with fail
        clear c0_x c1_x c2_x
        clear c0_y c1_y c2_y
        have hc9 := spec_cmpR b0 _ x _ d b1 _ y _ e w2 (H0.out.below B.out) (H1.out.below B.out) CH.out.1 CH.out.2.1 CH.out.2.2.1 CH.out.2.2.2.1 CH.out.2.2.2.2.1 CH.out.2.2.2.2.2.1 CH.out.2.2.2.2.2.2.1 CH.out.2.2.2.2.2.2.2.1 CH.out.2.2.2.2.2.2.2.2.1 CH.out.2.2.2.2.2.2.2.2.2
        rw [HC.out] at hc9
        refine (hc9).mono ?_
        rintro e w3 ⟨rfl, bw3⟩
        replace B := Lib.hid (B.out.trans (bw3.mono B.out.size))
        replace BB := Lib.hid (BB.out.trans (bw3.mono BB.out.size))
        clear bw3
        have c0_x := (D_x.out.below BB.out).c0
        have c1_x := (D_x.out.below BB.out).c1
        have c2_x := (D_x.out.below BB.out).c2
        have c0_y := (D_y.out.below BB.out).c0
        have c1_y := (D_y.out.below BB.out).c1
        have c2_y := (D_y.out.below BB.out).c2
        go_wp2_with fail
        clear c0_x c1_x c2_x
        clear c0_y c1_y c2_y
        refine (spec_copy b1 _ y _ e _ (H1.out.below B.out) CH.out.2.2.1 CH.out.2.2.2.1).mono ?_
        rintro e w4 ⟨v_q, d_q, rfl, u_q, bw4⟩
        obtain ⟨a_q, c_q, e_q, f_q, rfl, rfl⟩ := u_q.slices
        have hb5 := BB.out.size
        replace B := Lib.hid (B.out.trans (bw4.mono B.out.size))
        replace BB := Lib.hid (BB.out.trans (bw4.mono BB.out.size))
        clear bw4
        have c0_r := (D_r.out.below BB.out).c0
        have c1_r := (D_r.out.below BB.out).c1
        have c2_r := (D_r.out.below BB.out).c2
        have f0_r := (D_r.out.below BB.out).f 0
        have f1_r := (D_r.out.below BB.out).f 1
        have f2_r := (D_r.out.below BB.out).f 2
        obtain ⟨e1, e2⟩ := rat_end (b' := b1) B.out (D_r.out.below BB.out) (OwnR.base (B' := W0.heap.size) u_q hb5) (by decide) (by have := SZ.out; omega) (by omega) (.slice a_q (limI y).length c_q) (.slice e_q (limI e).length f_q)
        have D8 := Rx.set3 (b' := b1) (v' := .slice a_q (limI y).length c_q) (d' := .slice e_q (limI e).length f_q) (D_r.out.below BB.out)
        have hc0 := D8.c0; have hc1 := D8.c1; have hc2 := D8.c2
        go_wp2
        exact bodyPost_ret (v := .agg #[.bool (b1), .slice a_q (limI y).length c_q, .slice e_q (limI e).length f_q]) (by simp [results, Try.results52, go_sem, hc0, hc1, hc2]) rfl ⟨_, _, rfl, e1, e2⟩

      · have hs : secB false (sgCmp b1 (y * d) b0 (x * e)) = false := by unfold secB; simpa using ht
        rw [hs, if_neg (by decide), if_neg (by decide), if_neg (by decide)]
        obtain ⟨cm, hcm⟩ : ∃ c, sgCmp b0 (x * e) b1 (y * d) = c := ⟨_, rfl⟩
        have HT : 0 ≤ cm := by rw [sgCmp_swap b0 (x * e) b1 (y * d), hcm] at ht; omega
        have hdec : decide (0 ≤ cm) = true := by simp; omega
        have HC := Lib.hid hcm
        clear ht hs hcm
        have H0 := Lib.hid h0
        have H1 := Lib.hid h1
        obtain ⟨⟨a0, c0, rfl, z1, z2, z3⟩, ⟨e0, f0, rfl, z4, z5, z6⟩⟩ := h0
        clear z1 z2 z3 z4 z5 z6
        obtain ⟨⟨a1, c1, rfl, z1, z2, z3⟩, ⟨e1, f1, rfl, z4, z5, z6⟩⟩ := h1
        clear z1 z2 z3 z4 z5 z6
        obtain ⟨nx, hnx⟩ : ∃ n, (limI x).length = n := ⟨_, rfl⟩
        rw [hnx] at H0
        try rw [hnx]
        have Nnx := Lib.hid hnx
        clear hnx
        obtain ⟨nd, hnd⟩ : ∃ n, (limI d).length = n := ⟨_, rfl⟩
        rw [hnd] at H0
        try rw [hnd]
        have Nnd := Lib.hid hnd
        clear hnd
        obtain ⟨ny, hny⟩ : ∃ n, (limI y).length = n := ⟨_, rfl⟩
        rw [hny] at H1
        try rw [hny]
        have Nny := Lib.hid hny
        clear hny
        obtain ⟨ne, hne⟩ : ∃ n, (limI e).length = n := ⟨_, rfl⟩
        rw [hne] at H1
        try rw [hne]
        have Nne := Lib.hid hne
        clear hne
        go_enter Try.func52, Try.ntmps52
        go_wp2_with fail
        obtain ⟨W0, hW0⟩ : ∃ x, x = (((w.alloc (.cells #[.bool b0, .slice a0 nx c0, .slice e0 nd f0] 31)).alloc (.cells #[.bool b1, .slice a1 ny c1, .slice e1 ne f1] 31)).alloc (.cells #[.bool false, .slice none 0 0, .slice none 0 0] 31)) := ⟨_, rfl⟩
        have B := Lib.hid (show Below w.heap.size w W0 by rw [hW0]; exact ((((Below.refl _ _).alloc (Nat.le_refl _) _).alloc (by simp) _).alloc (by simp; omega) _))
        have D_x := Lib.hid (rx_at (show Rx W0 _ 31 (b0) (.slice a0 nx c0) (.slice e0 nd f0) by rw [hW0]; exact ((Rx.new _ _ _ _ _).alloc _).alloc _) (show w.heap.size = _ by simp))
        have D_y := Lib.hid (rx_at (show Rx W0 _ 31 (b1) (.slice a1 ny c1) (.slice e1 ne f1) by rw [hW0]; exact (Rx.new _ _ _ _ _).alloc _) (show (w.heap.size + 1) = _ by simp))
        have D_r := Lib.hid (rx_at (show Rx W0 _ 31 (false) (.slice none 0 0) (.slice none 0 0) by rw [hW0]; exact Rx.new _ _ _ _ _) (show (w.heap.size + 1 + 1) = _ by simp))
        have SZ := Lib.hid (show W0.heap.size = w.heap.size + 1 + 1 + 1 by rw [hW0]; simp)
        rw [← hW0]
        clear hW0
        have BB := Lib.hid (Below.refl W0.heap.size W0)
        refine (spec_ratOkR b0 _ (limI x) _ (limI d) _ _ (H0.out.below B.out) E0.out).mono ?_
        rintro e w1 ⟨rfl, bw1⟩
        replace B := Lib.hid (B.out.trans (bw1.mono B.out.size))
        replace BB := Lib.hid (BB.out.trans (bw1.mono BB.out.size))
        clear bw1
        have c0_y := (D_y.out.below BB.out).c0
        have c1_y := (D_y.out.below BB.out).c1
        have c2_y := (D_y.out.below BB.out).c2
        go_wp2_with fail
        clear c0_y c1_y c2_y
        refine (spec_ratOkR b1 _ (limI y) _ (limI e) _ _ (H1.out.below B.out) E1.out).mono ?_
        rintro e w2 ⟨rfl, bw2⟩
        replace B := Lib.hid (B.out.trans (bw2.mono B.out.size))
        replace BB := Lib.hid (BB.out.trans (bw2.mono BB.out.size))
        clear bw2
        have c0_x := (D_x.out.below BB.out).c0
        have c1_x := (D_x.out.below BB.out).c1
        have c2_x := (D_x.out.below BB.out).c2
        have c0_y := (D_y.out.below BB.out).c0
        have c1_y := (D_y.out.below BB.out).c1
        have c2_y := (D_y.out.below BB.out).c2
        go_wp2_with fail
        clear c0_x c1_x c2_x
        clear c0_y c1_y c2_y
        have hc9 := spec_cmpR b0 _ x _ d b1 _ y _ e w2 (H0.out.below B.out) (H1.out.below B.out) CH.out.1 CH.out.2.1 CH.out.2.2.1 CH.out.2.2.2.1 CH.out.2.2.2.2.1 CH.out.2.2.2.2.2.1 CH.out.2.2.2.2.2.2.1 CH.out.2.2.2.2.2.2.2.1 CH.out.2.2.2.2.2.2.2.2.1 CH.out.2.2.2.2.2.2.2.2.2
        rw [HC.out] at hc9
        refine (hc9).mono ?_
        rintro e w3 ⟨rfl, bw3⟩
        replace B := Lib.hid (B.out.trans (bw3.mono B.out.size))
        replace BB := Lib.hid (BB.out.trans (bw3.mono BB.out.size))
        clear bw3
        have c0_x := (D_x.out.below BB.out).c0
        have c1_x := (D_x.out.below BB.out).c1
        have c2_x := (D_x.out.below BB.out).c2
        have c0_y := (D_y.out.below BB.out).c0
        have c1_y := (D_y.out.below BB.out).c1
        have c2_y := (D_y.out.below BB.out).c2
        go_wp2_with fail
        clear c0_x c1_x c2_x
        clear c0_y c1_y c2_y
        refine (spec_copy b0 _ x _ d _ (H0.out.below B.out) CH.out.1 CH.out.2.1).mono ?_
        rintro e w4 ⟨v_q, d_q, rfl, u_q, bw4⟩
        obtain ⟨a_q, c_q, e_q, f_q, rfl, rfl⟩ := u_q.slices
        have hb5 := BB.out.size
        replace B := Lib.hid (B.out.trans (bw4.mono B.out.size))
        replace BB := Lib.hid (BB.out.trans (bw4.mono BB.out.size))
        clear bw4
        have c0_r := (D_r.out.below BB.out).c0
        have c1_r := (D_r.out.below BB.out).c1
        have c2_r := (D_r.out.below BB.out).c2
        have f0_r := (D_r.out.below BB.out).f 0
        have f1_r := (D_r.out.below BB.out).f 1
        have f2_r := (D_r.out.below BB.out).f 2
        obtain ⟨e1, e2⟩ := rat_end (b' := b0) B.out (D_r.out.below BB.out) (OwnR.base (B' := W0.heap.size) u_q hb5) (by decide) (by have := SZ.out; omega) (by omega) (.slice a_q (limI x).length c_q) (.slice e_q (limI d).length f_q)
        have D8 := Rx.set3 (b' := b0) (v' := .slice a_q (limI x).length c_q) (d' := .slice e_q (limI d).length f_q) (D_r.out.below BB.out)
        have hc0 := D8.c0; have hc1 := D8.c1; have hc2 := D8.c2
        go_wp2
        exact bodyPost_ret (v := .agg #[.bool (b0), .slice a_q (limI x).length c_q, .slice e_q (limI d).length f_q]) (by simp [results, Try.results52, go_sem, hc0, hc1, hc2]) rfl ⟨_, _, rfl, e1, e2⟩


def ratNegB (b0 : Bool) (zs0 ds0 : List Int) : Bool := if ratOk b0 zs0 ds0 then (!b0 && decide (0 < natI zs0)) else false
def ratNegZ (b0 : Bool) (zs0 ds0 : List Int) : List Int := if ratOk b0 zs0 ds0 then zs0 else []
def ratNegD (b0 : Bool) (zs0 ds0 : List Int) : List Int := if ratOk b0 zs0 ds0 then ds0 else []
theorem ratNeg_no {b0 : Bool} {zs0 ds0 : List Int} (h : ratOk b0 zs0 ds0 = false) : ratNegB b0 zs0 ds0 = false ∧ ratNegZ b0 zs0 ds0 = [] ∧ ratNegD b0 zs0 ds0 = [] := by unfold ratNegB ratNegZ ratNegD; rw [h]; simp
theorem ratNeg_yes {b0 : Bool} {x d : Nat} (h : ratOk b0 (limI x) (limI d) = true) : ratNegB b0 (limI x) (limI d) = (!b0 && decide (0 < x)) ∧ ratNegZ b0 (limI x) (limI d) = limI x ∧ ratNegD b0 (limI x) (limI d) = limI d := by unfold ratNegB ratNegZ ratNegD; rw [h, natI_limI]; exact ⟨rfl, rfl, rfl⟩
theorem ratNegZ_len (b0 : Bool) (zs0 ds0 : List Int) : (ratNegZ b0 zs0 ds0).length ≤ 1000 := by
  cases h : ratOk b0 zs0 ds0 with
  | false => rw [(ratNeg_no h).2.1]; simp
  | true =>
    obtain ⟨x, d, rfl, rfl, hx, hd, _⟩ := ratOk_parts h
    rw [(ratNeg_yes h).2.1, limI_length]; have := (nlen_le_iff _ _).2 hx; omega
theorem ratNegD_len (b0 : Bool) (zs0 ds0 : List Int) : (ratNegD b0 zs0 ds0).length ≤ 1000 := by
  cases h : ratOk b0 zs0 ds0 with
  | false => rw [(ratNeg_no h).2.2]; simp
  | true =>
    obtain ⟨x, d, rfl, rfl, hx, hd, _⟩ := ratOk_parts h
    rw [(ratNeg_yes h).2.2, limI_length]; have := (nlen_le_iff _ _).2 hd; omega
def ratSignI (b0 : Bool) (zs0 ds0 : List Int) : Int := if ratOk b0 zs0 ds0 then (if natI zs0 = 0 then 0 else if b0 then -1 else 1) else 0
theorem ratSign_no {b0 : Bool} {zs0 ds0 : List Int} (h : ratOk b0 zs0 ds0 = false) : ratSignI b0 zs0 ds0 = 0 := by unfold ratSignI; rw [h]; simp
theorem ratSign_yes {b0 : Bool} {x d : Nat} (h : ratOk b0 (limI x) (limI d) = true) : ratSignI b0 (limI x) (limI d) = (if x = 0 then 0 else if b0 then -1 else 1) := by unfold ratSignI; rw [h, natI_limI]; rfl
theorem sign_cmp {b0 : Bool} {x : Nat} (n0 : b0 = true → 0 < x) : sgCmp b0 x false 0 = (if x = 0 then 0 else if b0 then -1 else 1) := by
  unfold sgCmp cmpN
  cases b0 with
  | false => simp
  | true => have := n0 rfl; simp; omega


set_option maxRecDepth 100000 in
set_option maxHeartbeats 1000000 in
theorem spec_ratNeg (b0 : Bool) (v0 : Value) (zs0 : List Int) (d0 : Value) (ds0 : List Int) (w : World) (h0 : RowR w v0 zs0 d0 ds0) :
    Calls Try.prog 36 #[.agg #[.bool b0, v0, d0]] w fun r w' => ∃ v dd, r = .returned (.agg #[.bool (ratNegB b0 zs0 ds0), v, dd]) ∧ OwnR w' w.heap.size v (ratNegZ b0 zs0 ds0) dd (ratNegD b0 zs0 ds0) ∧ Below w.heap.size w w' := by
  cases q0 : ratOk b0 zs0 ds0 with
  | false =>
    have HE := ratNeg_no q0
    rw [HE.1, HE.2.1, HE.2.2]
    have E0 := Lib.hid q0
    clear HE q0
    have H0 := Lib.hid h0
    obtain ⟨⟨a0, c0, rfl, z1, z2, z3⟩, ⟨e0, f0, rfl, z4, z5, z6⟩⟩ := h0
    clear z1 z2 z3 z4 z5 z6
    obtain ⟨nx, hnx⟩ : ∃ n, zs0.length = n := ⟨_, rfl⟩
    rw [hnx] at H0
    try rw [hnx]
    have Nnx := Lib.hid hnx
    clear hnx
    obtain ⟨nd, hnd⟩ : ∃ n, ds0.length = n := ⟨_, rfl⟩
    rw [hnd] at H0
    try rw [hnd]
    have Nnd := Lib.hid hnd
    clear hnd
    go_enter Try.func36, Try.ntmps36
    go_wp2_with fail
    obtain ⟨W0, hW0⟩ : ∃ x, x = ((w.alloc (.cells #[.bool b0, .slice a0 nx c0, .slice e0 nd f0] 31)).alloc (.cells #[.bool false, .slice none 0 0, .slice none 0 0] 31)) := ⟨_, rfl⟩
    have B := Lib.hid (show Below w.heap.size w W0 by rw [hW0]; exact (((Below.refl _ _).alloc (Nat.le_refl _) _).alloc (by simp) _))
    have D_x := Lib.hid (rx_at (show Rx W0 _ 31 (b0) (.slice a0 nx c0) (.slice e0 nd f0) by rw [hW0]; exact (Rx.new _ _ _ _ _).alloc _) (show w.heap.size = _ by simp))
    have D_r := Lib.hid (rx_at (show Rx W0 _ 31 (false) (.slice none 0 0) (.slice none 0 0) by rw [hW0]; exact Rx.new _ _ _ _ _) (show (w.heap.size + 1) = _ by simp))
    have SZ := Lib.hid (show W0.heap.size = w.heap.size + 1 + 1 by rw [hW0]; simp)
    rw [← hW0]
    clear hW0
    have BB := Lib.hid (Below.refl W0.heap.size W0)
    refine (spec_ratOkR b0 _ zs0 _ ds0 _ _ (H0.out.below B.out) E0.out).mono ?_
    rintro e w1 ⟨rfl, bw1⟩
    replace B := Lib.hid (B.out.trans (bw1.mono B.out.size))
    replace BB := Lib.hid (BB.out.trans (bw1.mono BB.out.size))
    clear bw1
    have c0_r := (D_r.out.below BB.out).c0
    have c1_r := (D_r.out.below BB.out).c1
    have c2_r := (D_r.out.below BB.out).c2
    have f0_r := (D_r.out.below BB.out).f 0
    have f1_r := (D_r.out.below BB.out).f 1
    have f2_r := (D_r.out.below BB.out).f 2
    obtain ⟨e1, e2⟩ := rat_end (b' := false) B.out (D_r.out.below BB.out) (OwnR.nil _ W0.heap.size) (by decide) (by have := SZ.out; omega) (by omega) (.slice none 0 0) (.slice none 0 0)
    have D8 := Rx.set3 (b' := false) (v' := .slice none 0 0) (d' := .slice none 0 0) (D_r.out.below BB.out)
    have hc0 := D8.c0; have hc1 := D8.c1; have hc2 := D8.c2
    go_wp2
    exact bodyPost_ret (v := .agg #[.bool (false), .slice none 0 0, .slice none 0 0]) (by simp [results, Try.results36, go_sem, hc0, hc1, hc2]) rfl ⟨_, _, rfl, e1, e2⟩

  | true =>
    obtain ⟨x, d, rfl, rfl, hx, hd, hd0, g0, n0⟩ := ratOk_parts q0
    have HE := ratNeg_yes q0
    rw [HE.1, HE.2.1, HE.2.2]
    have E0 := Lib.hid q0
    have CX := Lib.hid (And.intro hx (And.intro hd n0))
    clear HE q0 hx hd hd0 g0 n0
    have H0 := Lib.hid h0
    obtain ⟨⟨a0, c0, rfl, z1, z2, z3⟩, ⟨e0, f0, rfl, z4, z5, z6⟩⟩ := h0
    clear z1 z2 z3 z4 z5 z6
    obtain ⟨nx, hnx⟩ : ∃ n, (limI x).length = n := ⟨_, rfl⟩
    rw [hnx] at H0
    try rw [hnx]
    have Nnx := Lib.hid hnx
    clear hnx
    obtain ⟨nd, hnd⟩ : ∃ n, (limI d).length = n := ⟨_, rfl⟩
    rw [hnd] at H0
    try rw [hnd]
    have Nnd := Lib.hid hnd
    clear hnd
    go_enter Try.func36, Try.ntmps36
    go_wp2_with fail
    obtain ⟨W0, hW0⟩ : ∃ x, x = ((w.alloc (.cells #[.bool b0, .slice a0 nx c0, .slice e0 nd f0] 31)).alloc (.cells #[.bool false, .slice none 0 0, .slice none 0 0] 31)) := ⟨_, rfl⟩
    have B := Lib.hid (show Below w.heap.size w W0 by rw [hW0]; exact (((Below.refl _ _).alloc (Nat.le_refl _) _).alloc (by simp) _))
    have D_x := Lib.hid (rx_at (show Rx W0 _ 31 (b0) (.slice a0 nx c0) (.slice e0 nd f0) by rw [hW0]; exact (Rx.new _ _ _ _ _).alloc _) (show w.heap.size = _ by simp))
    have D_r := Lib.hid (rx_at (show Rx W0 _ 31 (false) (.slice none 0 0) (.slice none 0 0) by rw [hW0]; exact Rx.new _ _ _ _ _) (show (w.heap.size + 1) = _ by simp))
    have SZ := Lib.hid (show W0.heap.size = w.heap.size + 1 + 1 by rw [hW0]; simp)
    rw [← hW0]
    clear hW0
    have BB := Lib.hid (Below.refl W0.heap.size W0)
    refine (spec_ratOkR b0 _ (limI x) _ (limI d) _ _ (H0.out.below B.out) E0.out).mono ?_
    rintro e w1 ⟨rfl, bw1⟩
    replace B := Lib.hid (B.out.trans (bw1.mono B.out.size))
    replace BB := Lib.hid (BB.out.trans (bw1.mono BB.out.size))
    clear bw1
    have c0_x := (D_x.out.below BB.out).c0
    have c1_x := (D_x.out.below BB.out).c1
    have c2_x := (D_x.out.below BB.out).c2
    go_wp2_with fail
    clear c0_x c1_x c2_x
    refine (spec_neg b0 _ x _ d _ (H0.out.below B.out) CX.out.1 CX.out.2.1).mono ?_
    rintro e w2 ⟨v_q, d_q, rfl, u_q, bw2⟩
    obtain ⟨a_q, c_q, e_q, f_q, rfl, rfl⟩ := u_q.slices
    have hb5 := BB.out.size
    replace B := Lib.hid (B.out.trans (bw2.mono B.out.size))
    replace BB := Lib.hid (BB.out.trans (bw2.mono BB.out.size))
    clear bw2
    have c0_r := (D_r.out.below BB.out).c0
    have c1_r := (D_r.out.below BB.out).c1
    have c2_r := (D_r.out.below BB.out).c2
    have f0_r := (D_r.out.below BB.out).f 0
    have f1_r := (D_r.out.below BB.out).f 1
    have f2_r := (D_r.out.below BB.out).f 2
    obtain ⟨e1, e2⟩ := rat_end (b' := !b0 && decide (0 < x)) B.out (D_r.out.below BB.out) (OwnR.base (B' := W0.heap.size) u_q hb5) (by decide) (by have := SZ.out; omega) (by omega) (.slice a_q (limI x).length c_q) (.slice e_q (limI d).length f_q)
    have D8 := Rx.set3 (b' := !b0 && decide (0 < x)) (v' := .slice a_q (limI x).length c_q) (d' := .slice e_q (limI d).length f_q) (D_r.out.below BB.out)
    have hc0 := D8.c0; have hc1 := D8.c1; have hc2 := D8.c2
    go_wp2
    exact bodyPost_ret (v := .agg #[.bool (!b0 && decide (0 < x)), .slice a_q (limI x).length c_q, .slice e_q (limI d).length f_q]) (by simp [results, Try.results36, go_sem, hc0, hc1, hc2]) rfl ⟨_, _, rfl, e1, e2⟩


set_option maxRecDepth 100000 in
set_option maxHeartbeats 1000000 in
theorem impl_ratNeg (b0 : Bool) (v0 : Value) (zs0 : List Int) (d0 : Value) (ds0 : List Int) (w : World) (h0 : RowR w v0 zs0 d0 ds0) :
    Calls Try.prog 37 #[.agg #[.bool b0, v0, d0]] w fun r w' => ∃ v dd, r = .returned (.agg #[.bool (ratNegB b0 zs0 ds0), v, dd]) ∧ OwnR w' w.heap.size v (ratNegZ b0 zs0 ds0) dd (ratNegD b0 zs0 ds0) ∧ Below w.heap.size w w' := by
  cases q0 : ratOk b0 zs0 ds0 with
  | false =>
    have HE := ratNeg_no q0
    rw [HE.1, HE.2.1, HE.2.2]
    have E0 := Lib.hid q0
    clear HE q0
    have H0 := Lib.hid h0
    obtain ⟨⟨a0, c0, rfl, z1, z2, z3⟩, ⟨e0, f0, rfl, z4, z5, z6⟩⟩ := h0
    clear z1 z2 z3 z4 z5 z6
    obtain ⟨nx, hnx⟩ : ∃ n, zs0.length = n := ⟨_, rfl⟩
    rw [hnx] at H0
    try rw [hnx]
    have Nnx := Lib.hid hnx
    clear hnx
    obtain ⟨nd, hnd⟩ : ∃ n, ds0.length = n := ⟨_, rfl⟩
    rw [hnd] at H0
    try rw [hnd]
    have Nnd := Lib.hid hnd
    clear hnd
    go_enter Try.func37, Try.ntmps37
    go_wp2_with fail
    obtain ⟨W0, hW0⟩ : ∃ x, x = ((w.alloc (.cells #[.bool b0, .slice a0 nx c0, .slice e0 nd f0] 31)).alloc (.cells #[.bool false, .slice none 0 0, .slice none 0 0] 31)) := ⟨_, rfl⟩
    have B := Lib.hid (show Below w.heap.size w W0 by rw [hW0]; exact (((Below.refl _ _).alloc (Nat.le_refl _) _).alloc (by simp) _))
    have D_x := Lib.hid (rx_at (show Rx W0 _ 31 (b0) (.slice a0 nx c0) (.slice e0 nd f0) by rw [hW0]; exact (Rx.new _ _ _ _ _).alloc _) (show w.heap.size = _ by simp))
    have D_r := Lib.hid (rx_at (show Rx W0 _ 31 (false) (.slice none 0 0) (.slice none 0 0) by rw [hW0]; exact Rx.new _ _ _ _ _) (show (w.heap.size + 1) = _ by simp))
    have SZ := Lib.hid (show W0.heap.size = w.heap.size + 1 + 1 by rw [hW0]; simp)
    rw [← hW0]
    clear hW0
    have BB := Lib.hid (Below.refl W0.heap.size W0)
    refine (impl_ratOkR2 b0 _ zs0 _ ds0 _ _ (H0.out.below B.out) E0.out).mono ?_
    rintro e w1 ⟨rfl, bw1⟩
    replace B := Lib.hid (B.out.trans (bw1.mono B.out.size))
    replace BB := Lib.hid (BB.out.trans (bw1.mono BB.out.size))
    clear bw1
    have c0_r := (D_r.out.below BB.out).c0
    have c1_r := (D_r.out.below BB.out).c1
    have c2_r := (D_r.out.below BB.out).c2
    have f0_r := (D_r.out.below BB.out).f 0
    have f1_r := (D_r.out.below BB.out).f 1
    have f2_r := (D_r.out.below BB.out).f 2
    obtain ⟨e1, e2⟩ := rat_end (b' := false) B.out (D_r.out.below BB.out) (OwnR.nil _ W0.heap.size) (by decide) (by have := SZ.out; omega) (by omega) (.slice none 0 0) (.slice none 0 0)
    have D8 := Rx.set3 (b' := false) (v' := .slice none 0 0) (d' := .slice none 0 0) (D_r.out.below BB.out)
    have hc0 := D8.c0; have hc1 := D8.c1; have hc2 := D8.c2
    go_wp2
    exact bodyPost_ret (v := .agg #[.bool (false), .slice none 0 0, .slice none 0 0]) (by simp [results, Try.results37, go_sem, hc0, hc1, hc2]) rfl ⟨_, _, rfl, e1, e2⟩

  | true =>
    obtain ⟨x, d, rfl, rfl, hx, hd, hd0, g0, n0⟩ := ratOk_parts q0
    have HE := ratNeg_yes q0
    rw [HE.1, HE.2.1, HE.2.2]
    have E0 := Lib.hid q0
    have CX := Lib.hid (And.intro hx (And.intro hd n0))
    clear HE q0 hx hd hd0 g0 n0
    have H0 := Lib.hid h0
    obtain ⟨⟨a0, c0, rfl, z1, z2, z3⟩, ⟨e0, f0, rfl, z4, z5, z6⟩⟩ := h0
    clear z1 z2 z3 z4 z5 z6
    obtain ⟨nx, hnx⟩ : ∃ n, (limI x).length = n := ⟨_, rfl⟩
    rw [hnx] at H0
    try rw [hnx]
    have Nnx := Lib.hid hnx
    clear hnx
    obtain ⟨nd, hnd⟩ : ∃ n, (limI d).length = n := ⟨_, rfl⟩
    rw [hnd] at H0
    try rw [hnd]
    have Nnd := Lib.hid hnd
    clear hnd
    go_enter Try.func37, Try.ntmps37
    go_wp2_with fail
    obtain ⟨W0, hW0⟩ : ∃ x, x = ((w.alloc (.cells #[.bool b0, .slice a0 nx c0, .slice e0 nd f0] 31)).alloc (.cells #[.bool false, .slice none 0 0, .slice none 0 0] 31)) := ⟨_, rfl⟩
    have B := Lib.hid (show Below w.heap.size w W0 by rw [hW0]; exact (((Below.refl _ _).alloc (Nat.le_refl _) _).alloc (by simp) _))
    have D_x := Lib.hid (rx_at (show Rx W0 _ 31 (b0) (.slice a0 nx c0) (.slice e0 nd f0) by rw [hW0]; exact (Rx.new _ _ _ _ _).alloc _) (show w.heap.size = _ by simp))
    have D_r := Lib.hid (rx_at (show Rx W0 _ 31 (false) (.slice none 0 0) (.slice none 0 0) by rw [hW0]; exact Rx.new _ _ _ _ _) (show (w.heap.size + 1) = _ by simp))
    have SZ := Lib.hid (show W0.heap.size = w.heap.size + 1 + 1 by rw [hW0]; simp)
    rw [← hW0]
    clear hW0
    have BB := Lib.hid (Below.refl W0.heap.size W0)
    refine (impl_ratOkR2 b0 _ (limI x) _ (limI d) _ _ (H0.out.below B.out) E0.out).mono ?_
    rintro e w1 ⟨rfl, bw1⟩
    replace B := Lib.hid (B.out.trans (bw1.mono B.out.size))
    replace BB := Lib.hid (BB.out.trans (bw1.mono BB.out.size))
    clear bw1
    have c0_x := (D_x.out.below BB.out).c0
    have c1_x := (D_x.out.below BB.out).c1
    have c2_x := (D_x.out.below BB.out).c2
    go_wp2_with fail
    clear c0_x c1_x c2_x
    refine (impl_opposite b0 _ x _ d _ (H0.out.below B.out) CX.out.1 CX.out.2.1 CX.out.2.2).mono ?_
    rintro e w2 ⟨v_q, d_q, rfl, u_q, bw2⟩
    obtain ⟨a_q, c_q, e_q, f_q, rfl, rfl⟩ := u_q.slices
    have hb5 := BB.out.size
    replace B := Lib.hid (B.out.trans (bw2.mono B.out.size))
    replace BB := Lib.hid (BB.out.trans (bw2.mono BB.out.size))
    clear bw2
    have c0_r := (D_r.out.below BB.out).c0
    have c1_r := (D_r.out.below BB.out).c1
    have c2_r := (D_r.out.below BB.out).c2
    have f0_r := (D_r.out.below BB.out).f 0
    have f1_r := (D_r.out.below BB.out).f 1
    have f2_r := (D_r.out.below BB.out).f 2
    obtain ⟨e1, e2⟩ := rat_end (b' := !b0 && decide (0 < x)) B.out (D_r.out.below BB.out) (OwnR.base (B' := W0.heap.size) u_q hb5) (by decide) (by have := SZ.out; omega) (by omega) (.slice a_q (limI x).length c_q) (.slice e_q (limI d).length f_q)
    have D8 := Rx.set3 (b' := !b0 && decide (0 < x)) (v' := .slice a_q (limI x).length c_q) (d' := .slice e_q (limI d).length f_q) (D_r.out.below BB.out)
    have hc0 := D8.c0; have hc1 := D8.c1; have hc2 := D8.c2
    go_wp2
    exact bodyPost_ret (v := .agg #[.bool (!b0 && decide (0 < x)), .slice a_q (limI x).length c_q, .slice e_q (limI d).length f_q]) (by simp [results, Try.results37, go_sem, hc0, hc1, hc2]) rfl ⟨_, _, rfl, e1, e2⟩


set_option maxRecDepth 100000 in
set_option maxHeartbeats 1000000 in
theorem impl_ratSign (b0 : Bool) (v0 : Value) (zs0 : List Int) (d0 : Value) (ds0 : List Int) (w : World) (h0 : RowR w v0 zs0 d0 ds0) :
    Calls Try.prog 47 #[.agg #[.bool b0, v0, d0]] w fun r w' => r = .returned (.int .i64 (ratSignI b0 zs0 ds0)) ∧ Below w.heap.size w w' := by
  cases q0 : ratOk b0 zs0 ds0 with
  | false =>
    have HE := ratSign_no q0
    rw [HE]
    have E0 := Lib.hid q0
    clear HE q0
    have H0 := Lib.hid h0
    obtain ⟨⟨a0, c0, rfl, z1, z2, z3⟩, ⟨e0, f0, rfl, z4, z5, z6⟩⟩ := h0
    clear z1 z2 z3 z4 z5 z6
    obtain ⟨nx, hnx⟩ : ∃ n, zs0.length = n := ⟨_, rfl⟩
    rw [hnx] at H0
    try rw [hnx]
    have Nnx := Lib.hid hnx
    clear hnx
    obtain ⟨nd, hnd⟩ : ∃ n, ds0.length = n := ⟨_, rfl⟩
    rw [hnd] at H0
    try rw [hnd]
    have Nnd := Lib.hid hnd
    clear hnd
    go_enter Try.func47, Try.ntmps47
    go_wp2_with fail
    obtain ⟨W0, hW0⟩ : ∃ x, x = (w.alloc (.cells #[.bool b0, .slice a0 nx c0, .slice e0 nd f0] 31)) := ⟨_, rfl⟩
    have B := Lib.hid (show Below w.heap.size w W0 by rw [hW0]; exact ((Below.refl _ _).alloc (Nat.le_refl _) _))
    have D_x := Lib.hid (rx_at (show Rx W0 _ 31 (b0) (.slice a0 nx c0) (.slice e0 nd f0) by rw [hW0]; exact Rx.new _ _ _ _ _) (show w.heap.size = _ by simp))
    have SZ := Lib.hid (show W0.heap.size = w.heap.size + 1 by rw [hW0]; simp)
    rw [← hW0]
    clear hW0
    have BB := Lib.hid (Below.refl W0.heap.size W0)
    refine (impl_ratOkR2 b0 _ zs0 _ ds0 _ _ (H0.out.below B.out) E0.out).mono ?_
    rintro e w1 ⟨rfl, bw1⟩
    replace B := Lib.hid (B.out.trans (bw1.mono B.out.size))
    replace BB := Lib.hid (BB.out.trans (bw1.mono BB.out.size))
    clear bw1
    go_wp2
    go_ret
    exact ⟨rfl, B.out⟩

  | true =>
    obtain ⟨x, d, rfl, rfl, hx, hd, hd0, g0, n0⟩ := ratOk_parts q0
    have HE := ratSign_yes q0
    rw [HE]
    have E0 := Lib.hid q0
    have CX := Lib.hid (And.intro hx (And.intro hd n0))
    clear HE q0 hx hd hd0 g0 n0
    have HS9 := Lib.hid (sign_cmp CX.out.2.2)
    rw [← HS9.out]
    have H0 := Lib.hid h0
    obtain ⟨⟨a0, c0, rfl, z1, z2, z3⟩, ⟨e0, f0, rfl, z4, z5, z6⟩⟩ := h0
    clear z1 z2 z3 z4 z5 z6
    obtain ⟨nx, hnx⟩ : ∃ n, (limI x).length = n := ⟨_, rfl⟩
    rw [hnx] at H0
    try rw [hnx]
    have Nnx := Lib.hid hnx
    clear hnx
    obtain ⟨nd, hnd⟩ : ∃ n, (limI d).length = n := ⟨_, rfl⟩
    rw [hnd] at H0
    try rw [hnd]
    have Nnd := Lib.hid hnd
    clear hnd
    go_enter Try.func47, Try.ntmps47
    go_wp2_with fail
    obtain ⟨W0, hW0⟩ : ∃ x, x = (w.alloc (.cells #[.bool b0, .slice a0 nx c0, .slice e0 nd f0] 31)) := ⟨_, rfl⟩
    have B := Lib.hid (show Below w.heap.size w W0 by rw [hW0]; exact ((Below.refl _ _).alloc (Nat.le_refl _) _))
    have D_x := Lib.hid (rx_at (show Rx W0 _ 31 (b0) (.slice a0 nx c0) (.slice e0 nd f0) by rw [hW0]; exact Rx.new _ _ _ _ _) (show w.heap.size = _ by simp))
    have SZ := Lib.hid (show W0.heap.size = w.heap.size + 1 by rw [hW0]; simp)
    rw [← hW0]
    clear hW0
    have BB := Lib.hid (Below.refl W0.heap.size W0)
    refine (impl_ratOkR2 b0 _ (limI x) _ (limI d) _ _ (H0.out.below B.out) E0.out).mono ?_
    rintro e w1 ⟨rfl, bw1⟩
    replace B := Lib.hid (B.out.trans (bw1.mono B.out.size))
    replace BB := Lib.hid (BB.out.trans (bw1.mono BB.out.size))
    clear bw1
    have c0_x := (D_x.out.below BB.out).c0
    have c1_x := (D_x.out.below BB.out).c1
    have c2_x := (D_x.out.below BB.out).c2
    go_wp2_with fail
    clear c0_x c1_x c2_x
    have hc9 := impl_bigCmp b0 _ (limI x) false (.slice none 0 0) (limI 0) _ (H0.out.below B.out).1 (show RowOf iV w1 (.slice none 0 0) (limI 0) by rw [limI_zero]; exact (OwnI.nil _ 0).row)
    rw [bigCmp_yes (big_lim (Nat.lt_trans CX.out.1 (pw_lt (by omega : 24 < 60))) CX.out.2.2) (big_lim (pw_pos 60) (fun h => by cases h))] at hc9
    refine hc9.mono ?_
    rintro r5 w5 ⟨rfl, b5⟩
    go_wp2
    go_ret
    exact ⟨rfl, B.out.trans (b5.mono B.out.size)⟩


set_option maxRecDepth 100000 in
set_option maxHeartbeats 1000000 in
theorem spec_ratSign (b0 : Bool) (v0 : Value) (zs0 : List Int) (d0 : Value) (ds0 : List Int) (w : World) (h0 : RowR w v0 zs0 d0 ds0) :
    Calls Try.prog 46 #[.agg #[.bool b0, v0, d0]] w fun r w' => r = .returned (.int .i64 (ratSignI b0 zs0 ds0)) ∧ Below w.heap.size w w' := by
  cases q0 : ratOk b0 zs0 ds0 with
  | false =>
    have HE := ratSign_no q0
    rw [HE]
    have E0 := Lib.hid q0
    clear HE q0
    have H0 := Lib.hid h0
    obtain ⟨⟨a0, c0, rfl, z1, z2, z3⟩, ⟨e0, f0, rfl, z4, z5, z6⟩⟩ := h0
    clear z1 z2 z3 z4 z5 z6
    obtain ⟨nx, hnx⟩ : ∃ n, zs0.length = n := ⟨_, rfl⟩
    rw [hnx] at H0
    try rw [hnx]
    have Nnx := Lib.hid hnx
    clear hnx
    obtain ⟨nd, hnd⟩ : ∃ n, ds0.length = n := ⟨_, rfl⟩
    rw [hnd] at H0
    try rw [hnd]
    have Nnd := Lib.hid hnd
    clear hnd
    go_enter Try.func46, Try.ntmps46
    go_wp2_with fail
    obtain ⟨W0, hW0⟩ : ∃ x, x = (w.alloc (.cells #[.bool b0, .slice a0 nx c0, .slice e0 nd f0] 31)) := ⟨_, rfl⟩
    have B := Lib.hid (show Below w.heap.size w W0 by rw [hW0]; exact ((Below.refl _ _).alloc (Nat.le_refl _) _))
    have D_x := Lib.hid (rx_at (show Rx W0 _ 31 (b0) (.slice a0 nx c0) (.slice e0 nd f0) by rw [hW0]; exact Rx.new _ _ _ _ _) (show w.heap.size = _ by simp))
    have SZ := Lib.hid (show W0.heap.size = w.heap.size + 1 by rw [hW0]; simp)
    rw [← hW0]
    clear hW0
    have BB := Lib.hid (Below.refl W0.heap.size W0)
    refine (spec_ratOkR b0 _ zs0 _ ds0 _ _ (H0.out.below B.out) E0.out).mono ?_
    rintro e w1 ⟨rfl, bw1⟩
    replace B := Lib.hid (B.out.trans (bw1.mono B.out.size))
    replace BB := Lib.hid (BB.out.trans (bw1.mono BB.out.size))
    clear bw1
    go_wp2
    go_ret
    exact ⟨rfl, B.out⟩

  | true =>
    obtain ⟨x, d, rfl, rfl, hx, hd, hd0, g0, n0⟩ := ratOk_parts q0
    have HE := ratSign_yes q0
    rw [HE]
    have E0 := Lib.hid q0
    have CX := Lib.hid (And.intro hx (And.intro hd n0))
    clear HE q0 hx hd hd0 g0 n0
    by_cases h0 : x = 0
    · rw [if_pos h0]
      have hq : (((limI x).length : Int) == 0) = true := by rw [h0, limI_zero]; rfl
      clear h0
      have H0 := Lib.hid h0
      obtain ⟨⟨a0, c0, rfl, z1, z2, z3⟩, ⟨e0, f0, rfl, z4, z5, z6⟩⟩ := h0
      clear z1 z2 z3 z4 z5 z6
      obtain ⟨nx, hnx⟩ : ∃ n, (limI x).length = n := ⟨_, rfl⟩
      rw [hnx] at H0
      try rw [hnx]
      have Nnx := Lib.hid hnx
      clear hnx
      obtain ⟨nd, hnd⟩ : ∃ n, (limI d).length = n := ⟨_, rfl⟩
      rw [hnd] at H0
      try rw [hnd]
      have Nnd := Lib.hid hnd
      clear hnd
      rw [Nnx.out] at hq
      go_enter Try.func46, Try.ntmps46
      go_wp2_with fail
      obtain ⟨W0, hW0⟩ : ∃ x, x = (w.alloc (.cells #[.bool b0, .slice a0 nx c0, .slice e0 nd f0] 31)) := ⟨_, rfl⟩
      have B := Lib.hid (show Below w.heap.size w W0 by rw [hW0]; exact ((Below.refl _ _).alloc (Nat.le_refl _) _))
      have D_x := Lib.hid (rx_at (show Rx W0 _ 31 (b0) (.slice a0 nx c0) (.slice e0 nd f0) by rw [hW0]; exact Rx.new _ _ _ _ _) (show w.heap.size = _ by simp))
      have SZ := Lib.hid (show W0.heap.size = w.heap.size + 1 by rw [hW0]; simp)
      rw [← hW0]
      clear hW0
      have BB := Lib.hid (Below.refl W0.heap.size W0)
      refine (spec_ratOkR b0 _ (limI x) _ (limI d) _ _ (H0.out.below B.out) E0.out).mono ?_
      rintro e w1 ⟨rfl, bw1⟩
      replace B := Lib.hid (B.out.trans (bw1.mono B.out.size))
      replace BB := Lib.hid (BB.out.trans (bw1.mono BB.out.size))
      clear bw1
      have c0_x := (D_x.out.below BB.out).c0
      have c1_x := (D_x.out.below BB.out).c1
      have c2_x := (D_x.out.below BB.out).c2
      go_wp2
      go_ret
      exact ⟨rfl, B.out⟩

    have hx9 : ¬ x = 0 := h0
    have HQ : Hid ((((limI x).length : Int) == 0) = false) := Lib.hid (beq_eq_false_iff_ne.2 (by have h := (limI_pos x).2 (by omega); omega))
    clear h0
    by_cases h1 : b0 = true
    · rw [if_neg hx9, if_pos h1]
      subst h1
      have hq := HQ.out
      have H0 := Lib.hid h0
      obtain ⟨⟨a0, c0, rfl, z1, z2, z3⟩, ⟨e0, f0, rfl, z4, z5, z6⟩⟩ := h0
      clear z1 z2 z3 z4 z5 z6
      obtain ⟨nx, hnx⟩ : ∃ n, (limI x).length = n := ⟨_, rfl⟩
      rw [hnx] at H0
      try rw [hnx]
      have Nnx := Lib.hid hnx
      clear hnx
      obtain ⟨nd, hnd⟩ : ∃ n, (limI d).length = n := ⟨_, rfl⟩
      rw [hnd] at H0
      try rw [hnd]
      have Nnd := Lib.hid hnd
      clear hnd
      rw [Nnx.out] at hq
      go_enter Try.func46, Try.ntmps46
      go_wp2_with fail
      obtain ⟨W0, hW0⟩ : ∃ x, x = (w.alloc (.cells #[.bool true, .slice a0 nx c0, .slice e0 nd f0] 31)) := ⟨_, rfl⟩
      have B := Lib.hid (show Below w.heap.size w W0 by rw [hW0]; exact ((Below.refl _ _).alloc (Nat.le_refl _) _))
      have D_x := Lib.hid (rx_at (show Rx W0 _ 31 (true) (.slice a0 nx c0) (.slice e0 nd f0) by rw [hW0]; exact Rx.new _ _ _ _ _) (show w.heap.size = _ by simp))
      have SZ := Lib.hid (show W0.heap.size = w.heap.size + 1 by rw [hW0]; simp)
      rw [← hW0]
      clear hW0
      have BB := Lib.hid (Below.refl W0.heap.size W0)
      refine (spec_ratOkR true _ (limI x) _ (limI d) _ _ (H0.out.below B.out) E0.out).mono ?_
      rintro e w1 ⟨rfl, bw1⟩
      replace B := Lib.hid (B.out.trans (bw1.mono B.out.size))
      replace BB := Lib.hid (BB.out.trans (bw1.mono BB.out.size))
      clear bw1
      have c0_x := (D_x.out.below BB.out).c0
      have c1_x := (D_x.out.below BB.out).c1
      have c2_x := (D_x.out.below BB.out).c2
      go_wp2
      go_ret
      exact ⟨rfl, B.out⟩

    rw [if_neg hx9, if_neg h1]
    obtain rfl : b0 = false := by cases b0 <;> simp_all
    clear h1
    have hq := HQ.out
    have H0 := Lib.hid h0
    obtain ⟨⟨a0, c0, rfl, z1, z2, z3⟩, ⟨e0, f0, rfl, z4, z5, z6⟩⟩ := h0
    clear z1 z2 z3 z4 z5 z6
    obtain ⟨nx, hnx⟩ : ∃ n, (limI x).length = n := ⟨_, rfl⟩
    rw [hnx] at H0
    try rw [hnx]
    have Nnx := Lib.hid hnx
    clear hnx
    obtain ⟨nd, hnd⟩ : ∃ n, (limI d).length = n := ⟨_, rfl⟩
    rw [hnd] at H0
    try rw [hnd]
    have Nnd := Lib.hid hnd
    clear hnd
    rw [Nnx.out] at hq
    go_enter Try.func46, Try.ntmps46
    go_wp2_with fail
    obtain ⟨W0, hW0⟩ : ∃ x, x = (w.alloc (.cells #[.bool false, .slice a0 nx c0, .slice e0 nd f0] 31)) := ⟨_, rfl⟩
    have B := Lib.hid (show Below w.heap.size w W0 by rw [hW0]; exact ((Below.refl _ _).alloc (Nat.le_refl _) _))
    have D_x := Lib.hid (rx_at (show Rx W0 _ 31 (false) (.slice a0 nx c0) (.slice e0 nd f0) by rw [hW0]; exact Rx.new _ _ _ _ _) (show w.heap.size = _ by simp))
    have SZ := Lib.hid (show W0.heap.size = w.heap.size + 1 by rw [hW0]; simp)
    rw [← hW0]
    clear hW0
    have BB := Lib.hid (Below.refl W0.heap.size W0)
    refine (spec_ratOkR false _ (limI x) _ (limI d) _ _ (H0.out.below B.out) E0.out).mono ?_
    rintro e w1 ⟨rfl, bw1⟩
    replace B := Lib.hid (B.out.trans (bw1.mono B.out.size))
    replace BB := Lib.hid (BB.out.trans (bw1.mono BB.out.size))
    clear bw1
    have c0_x := (D_x.out.below BB.out).c0
    have c1_x := (D_x.out.below BB.out).c1
    have c2_x := (D_x.out.below BB.out).c2
    go_wp2
    go_ret
    exact ⟨rfl, B.out⟩


end Go.Proofs.Ytgoonbjhfbnaiaa
