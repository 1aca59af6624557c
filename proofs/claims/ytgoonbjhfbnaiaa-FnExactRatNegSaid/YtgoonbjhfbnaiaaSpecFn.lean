/- Sums, products, quotients and comparisons of any fractions, in the model; the comparison of the program. -/
import Derived.Test.YtgoonbjhfbnaiaaSpecCore
import Derived.Test.YtgoonbjhfbnaiaaRatOk
import Derived.Test.YtgoonbjhfbnaiaaRatOps
namespace Go.Proofs.Ytgoonbjhfbnaiaa
open Go.RowKit Go.WideShapes Go.ChangeShapes
set_option linter.unusedVariables false
set_option linter.unusedSimpArgs false

theorem spec_ratOkR (b : Bool) (v : Value) (zs : List Int) (d : Value) (ds : List Int) (q : Bool) (w : World) (h : RowR w v zs d ds) (hq : ratOk b zs ds = q) :
    Calls Try.prog 18 #[.agg #[.bool b, v, d]] w fun r w' => r = .returned (.bool q) ∧ Below w.heap.size w w' := by rw [← hq]; exact spec_ratOk b v zs d ds w h
theorem impl_ratOkR2 (b : Bool) (v : Value) (zs : List Int) (d : Value) (ds : List Int) (q : Bool) (w : World) (h : RowR w v zs d ds) (hq : ratOk b zs ds = q) :
    Calls Try.prog 20 #[.agg #[.bool b, v, d]] w fun r w' => r = .returned (.bool q) ∧ Below w.heap.size w w' := by rw [← hq]; exact impl_ratOk b v zs d ds w h
def ratCmpI (b0 : Bool) (zs0 ds0 : List Int) (b1 : Bool) (zs1 ds1 : List Int) : Int := if ratOk b0 zs0 ds0 && ratOk b1 zs1 ds1 then sgCmp b0 (natI zs0 * natI ds1) b1 (natI zs1 * natI ds0) else 0
theorem ratCmp_no {b0 : Bool} {zs0 ds0 : List Int} {b1 : Bool} {zs1 ds1 : List Int} (h : ratOk b0 zs0 ds0 = false ∨ ratOk b1 zs1 ds1 = false) : ratCmpI b0 zs0 ds0 b1 zs1 ds1 = 0 := by
  unfold ratCmpI; rcases h with h | h <;> rw [h] <;> simp
theorem ratCmp_yes {b0 : Bool} {x d : Nat} {b1 : Bool} {y e : Nat} (h0 : ratOk b0 (limI x) (limI d) = true) (h1 : ratOk b1 (limI y) (limI e) = true) : ratCmpI b0 (limI x) (limI d) b1 (limI y) (limI e) = sgCmp b0 (x * e) b1 (y * d) := by
  unfold ratCmpI; rw [h0, h1, natI_limI, natI_limI, natI_limI, natI_limI]; rfl


set_option maxRecDepth 100000 in
set_option maxHeartbeats 2000000 in
theorem spec_ratAdd (b0 : Bool) (v0 : Value) (zs0 : List Int) (d0 : Value) (ds0 : List Int) (b1 : Bool) (v1 : Value) (zs1 : List Int) (d1 : Value) (ds1 : List Int) (w : World) (h0 : RowR w v0 zs0 d0 ds0) (h1 : RowR w v1 zs1 d1 ds1) :
    Calls Try.prog 34 #[.agg #[.bool b0, v0, d0], .agg #[.bool b1, v1, d1]] w fun r w' => ∃ v dd, r = .returned (.agg #[.bool (ratAddB b0 zs0 ds0 b1 zs1 ds1), v, dd]) ∧ OwnR w' w.heap.size v (ratAddZ b0 zs0 ds0 b1 zs1 ds1) dd (ratAddD b0 zs0 ds0 b1 zs1 ds1) ∧ Below w.heap.size w w' := by
  cases q0 : ratOk b0 zs0 ds0 with
  | false =>
    have HE := ratAdd_no (b1 := b1) (zs1 := zs1) (ds1 := ds1) (.inl q0)
    rw [HE.1, HE.2.1, HE.2.2]
    have E0 := Lib.hid q0
    clear HE q0
    have H0 := Lib.hid h0
    have H1 := Lib.hid h1
    obtain ⟨⟨a0, c0, rfl, z1, z2, z3⟩, ⟨e0, f0, rfl, z4, z5, z6⟩⟩ := h0
    clear z1 z2 z3 z4 z5 z6
    obtain ⟨⟨a1, c1, rfl, z1, z2, z3⟩, ⟨e1, f1, rfl, z4, z5, z6⟩⟩ := h1
    clear z1 z2 z3 z4 z5 z6
    obtain ⟨nx, hnx⟩ : ∃ n, zs0.length = n := ⟨_, rfl⟩
    rw [hnx] at H0
    try rw [hnx]
    have Nnx := Lib.hid hnx
    clear hnx
    obtain ⟨nd, hnd⟩ : ∃ n, ds0.length = n := ⟨_, rfl⟩
    rw [hnd] at H0
    try rw [hnd]
    have Nnd := Lib.hid hnd
    clear hnd
    obtain ⟨ny, hny⟩ : ∃ n, zs1.length = n := ⟨_, rfl⟩
    rw [hny] at H1
    try rw [hny]
    have Nny := Lib.hid hny
    clear hny
    obtain ⟨ne, hne⟩ : ∃ n, ds1.length = n := ⟨_, rfl⟩
    rw [hne] at H1
    try rw [hne]
    have Nne := Lib.hid hne
    clear hne
    go_enter Try.func34, Try.ntmps34
    go_wp2_with fail
    obtain ⟨W0, hW0⟩ : ∃ x, x = (((w.alloc (.cells #[.bool b0, .slice a0 nx c0, .slice e0 nd f0] 31)).alloc (.cells #[.bool b1, .slice a1 ny c1, .slice e1 ne f1] 31)).alloc (.cells #[.bool false, .slice none 0 0, .slice none 0 0] 31)) := ⟨_, rfl⟩
    have B := Lib.hid (show Below w.heap.size w W0 by rw [hW0]; exact ((((Below.refl _ _).alloc (Nat.le_refl _) _).alloc (by simp) _).alloc (by simp; omega) _))
    have D_x := Lib.hid (rx_at (show Rx W0 _ 31 (b0) (.slice a0 nx c0) (.slice e0 nd f0) by rw [hW0]; exact ((Rx.new _ _ _ _ _).alloc _).alloc _) (show w.heap.size = _ by simp))
    have D_y := Lib.hid (rx_at (show Rx W0 _ 31 (b1) (.slice a1 ny c1) (.slice e1 ne f1) by rw [hW0]; exact (Rx.new _ _ _ _ _).alloc _) (show (w.heap.size + 1) = _ by simp))
    have D_r := Lib.hid (rx_at (show Rx W0 _ 31 (false) (.slice none 0 0) (.slice none 0 0) by rw [hW0]; exact Rx.new _ _ _ _ _) (show (w.heap.size + 1 + 1) = _ by simp))
    have SZ := Lib.hid (show W0.heap.size = w.heap.size + 1 + 1 + 1 by rw [hW0]; simp)
    rw [← hW0]
    clear hW0
    have BB := Lib.hid (Below.refl W0.heap.size W0)
    refine (spec_ratOkR b0 _ zs0 _ ds0 _ _ (H0.out.below B.out) E0.out).mono ?_
    rintro e w1 ⟨rfl, bw1⟩
    replace B := Lib.hid (B.out.trans (bw1.mono B.out.size))
    replace BB := Lib.hid (BB.out.trans (bw1.mono BB.out.size))
    clear bw1
    have c0_r := (D_r.out.below BB.out).c0
    have c1_r := (D_r.out.below BB.out).c1
    have c2_r := (D_r.out.below BB.out).c2
    have f0_r := (D_r.out.below BB.out).f 0
    have f1_r := (D_r.out.below BB.out).f 1
    have f2_r := (D_r.out.below BB.out).f 2
    obtain ⟨e1, e2⟩ := rat_end (b' := false) B.out (D_r.out.below BB.out) (OwnR.nil _ W0.heap.size) (by decide) (by have := SZ.out; omega) (by omega) (.slice none 0 0) (.slice none 0 0)
    have D8 := Rx.set3 (b' := false) (v' := .slice none 0 0) (d' := .slice none 0 0) (D_r.out.below BB.out)
    have hc0 := D8.c0; have hc1 := D8.c1; have hc2 := D8.c2
    go_wp2
    exact bodyPost_ret (v := .agg #[.bool (false), .slice none 0 0, .slice none 0 0]) (by simp [results, Try.results34, go_sem, hc0, hc1, hc2]) rfl ⟨_, _, rfl, e1, e2⟩

  | true =>
    cases q1 : ratOk b1 zs1 ds1 with
    | false =>
      have HE := ratAdd_no (b0 := b0) (zs0 := zs0) (ds0 := ds0) (.inr q1)
      rw [HE.1, HE.2.1, HE.2.2]
      have E0 := Lib.hid q0
      have E1 := Lib.hid q1
      clear HE q0 q1
      have H0 := Lib.hid h0
      have H1 := Lib.hid h1
      obtain ⟨⟨a0, c0, rfl, z1, z2, z3⟩, ⟨e0, f0, rfl, z4, z5, z6⟩⟩ := h0
      clear z1 z2 z3 z4 z5 z6
      obtain ⟨⟨a1, c1, rfl, z1, z2, z3⟩, ⟨e1, f1, rfl, z4, z5, z6⟩⟩ := h1
      clear z1 z2 z3 z4 z5 z6
      obtain ⟨nx, hnx⟩ : ∃ n, zs0.length = n := ⟨_, rfl⟩
      rw [hnx] at H0
      try rw [hnx]
      have Nnx := Lib.hid hnx
      clear hnx
      obtain ⟨nd, hnd⟩ : ∃ n, ds0.length = n := ⟨_, rfl⟩
      rw [hnd] at H0
      try rw [hnd]
      have Nnd := Lib.hid hnd
      clear hnd
      obtain ⟨ny, hny⟩ : ∃ n, zs1.length = n := ⟨_, rfl⟩
      rw [hny] at H1
      try rw [hny]
      have Nny := Lib.hid hny
      clear hny
      obtain ⟨ne, hne⟩ : ∃ n, ds1.length = n := ⟨_, rfl⟩
      rw [hne] at H1
      try rw [hne]
      have Nne := Lib.hid hne
      clear hne
      go_enter Try.func34, Try.ntmps34
      go_wp2_with fail
      obtain ⟨W0, hW0⟩ : ∃ x, x = (((w.alloc (.cells #[.bool b0, .slice a0 nx c0, .slice e0 nd f0] 31)).alloc (.cells #[.bool b1, .slice a1 ny c1, .slice e1 ne f1] 31)).alloc (.cells #[.bool false, .slice none 0 0, .slice none 0 0] 31)) := ⟨_, rfl⟩
      have B := Lib.hid (show Below w.heap.size w W0 by rw [hW0]; exact ((((Below.refl _ _).alloc (Nat.le_refl _) _).alloc (by simp) _).alloc (by simp; omega) _))
      have D_x := Lib.hid (rx_at (show Rx W0 _ 31 (b0) (.slice a0 nx c0) (.slice e0 nd f0) by rw [hW0]; exact ((Rx.new _ _ _ _ _).alloc _).alloc _) (show w.heap.size = _ by simp))
      have D_y := Lib.hid (rx_at (show Rx W0 _ 31 (b1) (.slice a1 ny c1) (.slice e1 ne f1) by rw [hW0]; exact (Rx.new _ _ _ _ _).alloc _) (show (w.heap.size + 1) = _ by simp))
      have D_r := Lib.hid (rx_at (show Rx W0 _ 31 (false) (.slice none 0 0) (.slice none 0 0) by rw [hW0]; exact Rx.new _ _ _ _ _) (show (w.heap.size + 1 + 1) = _ by simp))
      have SZ := Lib.hid (show W0.heap.size = w.heap.size + 1 + 1 + 1 by rw [hW0]; simp)
      rw [← hW0]
      clear hW0
      have BB := Lib.hid (Below.refl W0.heap.size W0)
      refine (spec_ratOkR b0 _ zs0 _ ds0 _ _ (H0.out.below B.out) E0.out).mono ?_
      rintro e w1 ⟨rfl, bw1⟩
      replace B := Lib.hid (B.out.trans (bw1.mono B.out.size))
      replace BB := Lib.hid (BB.out.trans (bw1.mono BB.out.size))
      clear bw1
      have c0_y := (D_y.out.below BB.out).c0
      have c1_y := (D_y.out.below BB.out).c1
      have c2_y := (D_y.out.below BB.out).c2
      go_wp2_with fail
      clear c0_y c1_y c2_y
      refine (spec_ratOkR b1 _ zs1 _ ds1 _ _ (H1.out.below B.out) E1.out).mono ?_
      rintro e w2 ⟨rfl, bw2⟩
      replace B := Lib.hid (B.out.trans (bw2.mono B.out.size))
      replace BB := Lib.hid (BB.out.trans (bw2.mono BB.out.size))
      clear bw2
      have c0_r := (D_r.out.below BB.out).c0
      have c1_r := (D_r.out.below BB.out).c1
      have c2_r := (D_r.out.below BB.out).c2
      have f0_r := (D_r.out.below BB.out).f 0
      have f1_r := (D_r.out.below BB.out).f 1
      have f2_r := (D_r.out.below BB.out).f 2
      obtain ⟨e1, e2⟩ := rat_end (b' := false) B.out (D_r.out.below BB.out) (OwnR.nil _ W0.heap.size) (by decide) (by have := SZ.out; omega) (by omega) (.slice none 0 0) (.slice none 0 0)
      have D8 := Rx.set3 (b' := false) (v' := .slice none 0 0) (d' := .slice none 0 0) (D_r.out.below BB.out)
      have hc0 := D8.c0; have hc1 := D8.c1; have hc2 := D8.c2
      go_wp2
      exact bodyPost_ret (v := .agg #[.bool (false), .slice none 0 0, .slice none 0 0]) (by simp [results, Try.results34, go_sem, hc0, hc1, hc2]) rfl ⟨_, _, rfl, e1, e2⟩

    | true =>
      obtain ⟨x, d, rfl, rfl, hx, hd, hd0, g0, n0⟩ := ratOk_parts q0
      obtain ⟨y, e, rfl, rfl, hy, he, he0, g1, n1⟩ := ratOk_parts q1
      have HE := ratAdd_yes q0 q1
      rw [HE.1, HE.2.1, HE.2.2]
      have E0 := Lib.hid q0
      have E1 := Lib.hid q1
      have CH := Lib.hid (And.intro hx (And.intro hd (And.intro hy (And.intro he (And.intro hd0 (And.intro he0 (And.intro g0 (And.intro g1 (And.intro n0 n1)))))))))
      clear HE q0 q1 hx hd hy he hd0 he0 g0 g1 n0 n1
      have H0 := Lib.hid h0
      have H1 := Lib.hid h1
      obtain ⟨⟨a0, c0, rfl, z1, z2, z3⟩, ⟨e0, f0, rfl, z4, z5, z6⟩⟩ := h0
      clear z1 z2 z3 z4 z5 z6
      obtain ⟨⟨a1, c1, rfl, z1, z2, z3⟩, ⟨e1, f1, rfl, z4, z5, z6⟩⟩ := h1
      clear z1 z2 z3 z4 z5 z6
      obtain ⟨nx, hnx⟩ : ∃ n, (limI x).length = n := ⟨_, rfl⟩
      rw [hnx] at H0
      try rw [hnx]
      have Nnx := Lib.hid hnx
      clear hnx
      obtain ⟨nd, hnd⟩ : ∃ n, (limI d).length = n := ⟨_, rfl⟩
      rw [hnd] at H0
      try rw [hnd]
      have Nnd := Lib.hid hnd
      clear hnd
      obtain ⟨ny, hny⟩ : ∃ n, (limI y).length = n := ⟨_, rfl⟩
      rw [hny] at H1
      try rw [hny]
      have Nny := Lib.hid hny
      clear hny
      obtain ⟨ne, hne⟩ : ∃ n, (limI e).length = n := ⟨_, rfl⟩
      rw [hne] at H1
      try rw [hne]
      have Nne := Lib.hid hne
      clear hne
      obtain ⟨SS, hSS⟩ : ∃ s, (sgAddB b0 (x * e) b1 (y * d)) = s := ⟨_, rfl⟩
      obtain ⟨XX, hXX⟩ : ∃ s, (lowX (sgAddN b0 (x * e) b1 (y * d)) (d * e)) = s := ⟨_, rfl⟩
      obtain ⟨DD, hDD⟩ : ∃ s, (lowD (sgAddN b0 (x * e) b1 (y * d)) (d * e)) = s := ⟨_, rfl⟩
      rw [hSS, hXX, hDD]
      have HE := Lib.hid (And.intro hSS (And.intro hXX hDD))
      clear hSS hXX hDD
      go_enter Try.func34, Try.ntmps34
      go_wp2_with fail
      obtain ⟨W0, hW0⟩ : ∃ x, x = (((w.alloc (.cells #[.bool b0, .slice a0 nx c0, .slice e0 nd f0] 31)).alloc (.cells #[.bool b1, .slice a1 ny c1, .slice e1 ne f1] 31)).alloc (.cells #[.bool false, .slice none 0 0, .slice none 0 0] 31)) := ⟨_, rfl⟩
      have B := Lib.hid (show Below w.heap.size w W0 by rw [hW0]; exact ((((Below.refl _ _).alloc (Nat.le_refl _) _).alloc (by simp) _).alloc (by simp; omega) _))
      have D_x := Lib.hid (rx_at (show Rx W0 _ 31 (b0) (.slice a0 nx c0) (.slice e0 nd f0) by rw [hW0]; exact ((Rx.new _ _ _ _ _).alloc _).alloc _) (show w.heap.size = _ by simp))
      have D_y := Lib.hid (rx_at (show Rx W0 _ 31 (b1) (.slice a1 ny c1) (.slice e1 ne f1) by rw [hW0]; exact (Rx.new _ _ _ _ _).alloc _) (show (w.heap.size + 1) = _ by simp))
      have D_r := Lib.hid (rx_at (show Rx W0 _ 31 (false) (.slice none 0 0) (.slice none 0 0) by rw [hW0]; exact Rx.new _ _ _ _ _) (show (w.heap.size + 1 + 1) = _ by simp))
      have SZ := Lib.hid (show W0.heap.size = w.heap.size + 1 + 1 + 1 by rw [hW0]; simp)
      rw [← hW0]
      clear hW0
      have BB := Lib.hid (Below.refl W0.heap.size W0)
      refine (spec_ratOkR b0 _ (limI x) _ (limI d) _ _ (H0.out.below B.out) E0.out).mono ?_
      rintro e w1 ⟨rfl, bw1⟩
      replace B := Lib.hid (B.out.trans (bw1.mono B.out.size))
      replace BB := Lib.hid (BB.out.trans (bw1.mono BB.out.size))
      clear bw1
      have c0_y := (D_y.out.below BB.out).c0
      have c1_y := (D_y.out.below BB.out).c1
      have c2_y := (D_y.out.below BB.out).c2
      go_wp2_with fail
      clear c0_y c1_y c2_y
      refine (spec_ratOkR b1 _ (limI y) _ (limI e) _ _ (H1.out.below B.out) E1.out).mono ?_
      rintro e w2 ⟨rfl, bw2⟩
      replace B := Lib.hid (B.out.trans (bw2.mono B.out.size))
      replace BB := Lib.hid (BB.out.trans (bw2.mono BB.out.size))
      clear bw2
      have c0_x := (D_x.out.below BB.out).c0
      have c1_x := (D_x.out.below BB.out).c1
      have c2_x := (D_x.out.below BB.out).c2
      have c0_y := (D_y.out.below BB.out).c0
      have c1_y := (D_y.out.below BB.out).c1
      have c2_y := (D_y.out.below BB.out).c2
      go_wp2_with fail
      clear c0_x c1_x c2_x
      clear c0_y c1_y c2_y
      have hc9 := spec_addR b0 _ x _ d b1 _ y _ e w2 (H0.out.below B.out) (H1.out.below B.out) CH.out.1 CH.out.2.1 CH.out.2.2.1 CH.out.2.2.2.1 CH.out.2.2.2.2.1 CH.out.2.2.2.2.2.1 CH.out.2.2.2.2.2.2.1 CH.out.2.2.2.2.2.2.2.1 CH.out.2.2.2.2.2.2.2.2.1 CH.out.2.2.2.2.2.2.2.2.2
      rw [HE.out.1, HE.out.2.1, HE.out.2.2] at hc9
      refine (hc9).mono ?_
      rintro e w3 ⟨v_q, d_q, rfl, u_q, bw3⟩
      obtain ⟨a_q, c_q, e_q, f_q, rfl, rfl⟩ := u_q.slices
      have hb5 := BB.out.size
      replace B := Lib.hid (B.out.trans (bw3.mono B.out.size))
      replace BB := Lib.hid (BB.out.trans (bw3.mono BB.out.size))
      clear bw3
      have c0_r := (D_r.out.below BB.out).c0
      have c1_r := (D_r.out.below BB.out).c1
      have c2_r := (D_r.out.below BB.out).c2
      have f0_r := (D_r.out.below BB.out).f 0
      have f1_r := (D_r.out.below BB.out).f 1
      have f2_r := (D_r.out.below BB.out).f 2
      obtain ⟨e1, e2⟩ := rat_end (b' := mkB SS XX DD) B.out (D_r.out.below BB.out) (OwnR.base (B' := W0.heap.size) u_q hb5) (by decide) (by have := SZ.out; omega) (by omega) (.slice a_q (mkZ XX DD).length c_q) (.slice e_q (mkD XX DD).length f_q)
      have D8 := Rx.set3 (b' := mkB SS XX DD) (v' := .slice a_q (mkZ XX DD).length c_q) (d' := .slice e_q (mkD XX DD).length f_q) (D_r.out.below BB.out)
      have hc0 := D8.c0; have hc1 := D8.c1; have hc2 := D8.c2
      go_wp2
      exact bodyPost_ret (v := .agg #[.bool (mkB SS XX DD), .slice a_q (mkZ XX DD).length c_q, .slice e_q (mkD XX DD).length f_q]) (by simp [results, Try.results34, go_sem, hc0, hc1, hc2]) rfl ⟨_, _, rfl, e1, e2⟩


set_option maxRecDepth 100000 in
set_option maxHeartbeats 2000000 in
theorem spec_ratMul (b0 : Bool) (v0 : Value) (zs0 : List Int) (d0 : Value) (ds0 : List Int) (b1 : Bool) (v1 : Value) (zs1 : List Int) (d1 : Value) (ds1 : List Int) (w : World) (h0 : RowR w v0 zs0 d0 ds0) (h1 : RowR w v1 zs1 d1 ds1) :
    Calls Try.prog 40 #[.agg #[.bool b0, v0, d0], .agg #[.bool b1, v1, d1]] w fun r w' => ∃ v dd, r = .returned (.agg #[.bool (ratMulB b0 zs0 ds0 b1 zs1 ds1), v, dd]) ∧ OwnR w' w.heap.size v (ratMulZ b0 zs0 ds0 b1 zs1 ds1) dd (ratMulD b0 zs0 ds0 b1 zs1 ds1) ∧ Below w.heap.size w w' := by
  cases q0 : ratOk b0 zs0 ds0 with
  | false =>
    have HE := ratMul_no (b1 := b1) (zs1 := zs1) (ds1 := ds1) (.inl q0)
    rw [HE.1, HE.2.1, HE.2.2]
    have E0 := Lib.hid q0
    clear HE q0
    have H0 := Lib.hid h0
    have H1 := Lib.hid h1
    obtain ⟨⟨a0, c0, rfl, z1, z2, z3⟩, ⟨e0, f0, rfl, z4, z5, z6⟩⟩ := h0
    clear z1 z2 z3 z4 z5 z6
    obtain ⟨⟨a1, c1, rfl, z1, z2, z3⟩, ⟨e1, f1, rfl, z4, z5, z6⟩⟩ := h1
    clear z1 z2 z3 z4 z5 z6
    obtain ⟨nx, hnx⟩ : ∃ n, zs0.length = n := ⟨_, rfl⟩
    rw [hnx] at H0
    try rw [hnx]
    have Nnx := Lib.hid hnx
    clear hnx
    obtain ⟨nd, hnd⟩ : ∃ n, ds0.length = n := ⟨_, rfl⟩
    rw [hnd] at H0
    try rw [hnd]
    have Nnd := Lib.hid hnd
    clear hnd
    obtain ⟨ny, hny⟩ : ∃ n, zs1.length = n := ⟨_, rfl⟩
    rw [hny] at H1
    try rw [hny]
    have Nny := Lib.hid hny
    clear hny
    obtain ⟨ne, hne⟩ : ∃ n, ds1.length = n := ⟨_, rfl⟩
    rw [hne] at H1
    try rw [hne]
    have Nne := Lib.hid hne
    clear hne
    go_enter Try.func40, Try.ntmps40
    go_wp2_with fail
    obtain ⟨W0, hW0⟩ : ∃ x, x = (((w.alloc (.cells #[.bool b0, .slice a0 nx c0, .slice e0 nd f0] 31)).alloc (.cells #[.bool b1, .slice a1 ny c1, .slice e1 ne f1] 31)).alloc (.cells #[.bool false, .slice none 0 0, .slice none 0 0] 31)) := ⟨_, rfl⟩
    have B := Lib.hid (show Below w.heap.size w W0 by rw [hW0]; exact ((((Below.refl _ _).alloc (Nat.le_refl _) _).alloc (by simp) _).alloc (by simp; omega) _))
    have D_x := Lib.hid (rx_at (show Rx W0 _ 31 (b0) (.slice a0 nx c0) (.slice e0 nd f0) by rw [hW0]; exact ((Rx.new _ _ _ _ _).alloc _).alloc _) (show w.heap.size = _ by simp))
    have D_y := Lib.hid (rx_at (show Rx W0 _ 31 (b1) (.slice a1 ny c1) (.slice e1 ne f1) by rw [hW0]; exact (Rx.new _ _ _ _ _).alloc _) (show (w.heap.size + 1) = _ by simp))
    have D_r := Lib.hid (rx_at (show Rx W0 _ 31 (false) (.slice none 0 0) (.slice none 0 0) by rw [hW0]; exact Rx.new _ _ _ _ _) (show (w.heap.size + 1 + 1) = _ by simp))
    have SZ := Lib.hid (show W0.heap.size = w.heap.size + 1 + 1 + 1 by rw [hW0]; simp)
    rw [← hW0]
    clear hW0
    have BB := Lib.hid (Below.refl W0.heap.size W0)
    refine (spec_ratOkR b0 _ zs0 _ ds0 _ _ (H0.out.below B.out) E0.out).mono ?_
    rintro e w1 ⟨rfl, bw1⟩
    replace B := Lib.hid (B.out.trans (bw1.mono B.out.size))
    replace BB := Lib.hid (BB.out.trans (bw1.mono BB.out.size))
    clear bw1
    have c0_r := (D_r.out.below BB.out).c0
    have c1_r := (D_r.out.below BB.out).c1
    have c2_r := (D_r.out.below BB.out).c2
    have f0_r := (D_r.out.below BB.out).f 0
    have f1_r := (D_r.out.below BB.out).f 1
    have f2_r := (D_r.out.below BB.out).f 2
    obtain ⟨e1, e2⟩ := rat_end (b' := false) B.out (D_r.out.below BB.out) (OwnR.nil _ W0.heap.size) (by decide) (by have := SZ.out; omega) (by omega) (.slice none 0 0) (.slice none 0 0)
    have D8 := Rx.set3 (b' := false) (v' := .slice none 0 0) (d' := .slice none 0 0) (D_r.out.below BB.out)
    have hc0 := D8.c0; have hc1 := D8.c1; have hc2 := D8.c2
    go_wp2
    exact bodyPost_ret (v := .agg #[.bool (false), .slice none 0 0, .slice none 0 0]) (by simp [results, Try.results40, go_sem, hc0, hc1, hc2]) rfl ⟨_, _, rfl, e1, e2⟩

  | true =>
    cases q1 : ratOk b1 zs1 ds1 with
    | false =>
      have HE := ratMul_no (b0 := b0) (zs0 := zs0) (ds0 := ds0) (.inr q1)
      rw [HE.1, HE.2.1, HE.2.2]
      have E0 := Lib.hid q0
      have E1 := Lib.hid q1
      clear HE q0 q1
      have H0 := Lib.hid h0
      have H1 := Lib.hid h1
      obtain ⟨⟨a0, c0, rfl, z1, z2, z3⟩, ⟨e0, f0, rfl, z4, z5, z6⟩⟩ := h0
      clear z1 z2 z3 z4 z5 z6
      obtain ⟨⟨a1, c1, rfl, z1, z2, z3⟩, ⟨e1, f1, rfl, z4, z5, z6⟩⟩ := h1
      clear z1 z2 z3 z4 z5 z6
      obtain ⟨nx, hnx⟩ : ∃ n, zs0.length = n := ⟨_, rfl⟩
      rw [hnx] at H0
      try rw [hnx]
      have Nnx := Lib.hid hnx
      clear hnx
      obtain ⟨nd, hnd⟩ : ∃ n, ds0.length = n := ⟨_, rfl⟩
      rw [hnd] at H0
      try rw [hnd]
      have Nnd := Lib.hid hnd
      clear hnd
      obtain ⟨ny, hny⟩ : ∃ n, zs1.length = n := ⟨_, rfl⟩
      rw [hny] at H1
      try rw [hny]
      have Nny := Lib.hid hny
      clear hny
      obtain ⟨ne, hne⟩ : ∃ n, ds1.length = n := ⟨_, rfl⟩
      rw [hne] at H1
      try rw [hne]
      have Nne := Lib.hid hne
      clear hne
      go_enter Try.func40, Try.ntmps40
      go_wp2_with fail
      obtain ⟨W0, hW0⟩ : ∃ x, x = (((w.alloc (.cells #[.bool b0, .slice a0 nx c0, .slice e0 nd f0] 31)).alloc (.cells #[.bool b1, .slice a1 ny c1, .slice e1 ne f1] 31)).alloc (.cells #[.bool false, .slice none 0 0, .slice none 0 0] 31)) := ⟨_, rfl⟩
      have B := Lib.hid (show Below w.heap.size w W0 by rw [hW0]; exact ((((Below.refl _ _).alloc (Nat.le_refl _) _).alloc (by simp) _).alloc (by simp; omega) _))
      have D_x := Lib.hid (rx_at (show Rx W0 _ 31 (b0) (.slice a0 nx c0) (.slice e0 nd f0) by rw [hW0]; exact ((Rx.new _ _ _ _ _).alloc _).alloc _) (show w.heap.size = _ by simp))
      have D_y := Lib.hid (rx_at (show Rx W0 _ 31 (b1) (.slice a1 ny c1) (.slice e1 ne f1) by rw [hW0]; exact (Rx.new _ _ _ _ _).alloc _) (show (w.heap.size + 1) = _ by simp))
      have D_r := Lib.hid (rx_at (show Rx W0 _ 31 (false) (.slice none 0 0) (.slice none 0 0) by rw [hW0]; exact Rx.new _ _ _ _ _) (show (w.heap.size + 1 + 1) = _ by simp))
      have SZ := Lib.hid (show W0.heap.size = w.heap.size + 1 + 1 + 1 by rw [hW0]; simp)
      rw [← hW0]
      clear hW0
      have BB := Lib.hid (Below.refl W0.heap.size W0)
      refine (spec_ratOkR b0 _ zs0 _ ds0 _ _ (H0.out.below B.out) E0.out).mono ?_
      rintro e w1 ⟨rfl, bw1⟩
      replace B := Lib.hid (B.out.trans (bw1.mono B.out.size))
      replace BB := Lib.hid (BB.out.trans (bw1.mono BB.out.size))
      clear bw1
      have c0_y := (D_y.out.below BB.out).c0
      have c1_y := (D_y.out.below BB.out).c1
      have c2_y := (D_y.out.below BB.out).c2
      go_wp2_with fail
      clear c0_y c1_y c2_y
      refine (spec_ratOkR b1 _ zs1 _ ds1 _ _ (H1.out.below B.out) E1.out).mono ?_
      rintro e w2 ⟨rfl, bw2⟩
      replace B := Lib.hid (B.out.trans (bw2.mono B.out.size))
      replace BB := Lib.hid (BB.out.trans (bw2.mono BB.out.size))
      clear bw2
      have c0_r := (D_r.out.below BB.out).c0
      have c1_r := (D_r.out.below BB.out).c1
      have c2_r := (D_r.out.below BB.out).c2
      have f0_r := (D_r.out.below BB.out).f 0
      have f1_r := (D_r.out.below BB.out).f 1
      have f2_r := (D_r.out.below BB.out).f 2
      obtain ⟨e1, e2⟩ := rat_end (b' := false) B.out (D_r.out.below BB.out) (OwnR.nil _ W0.heap.size) (by decide) (by have := SZ.out; omega) (by omega) (.slice none 0 0) (.slice none 0 0)
      have D8 := Rx.set3 (b' := false) (v' := .slice none 0 0) (d' := .slice none 0 0) (D_r.out.below BB.out)
      have hc0 := D8.c0; have hc1 := D8.c1; have hc2 := D8.c2
      go_wp2
      exact bodyPost_ret (v := .agg #[.bool (false), .slice none 0 0, .slice none 0 0]) (by simp [results, Try.results40, go_sem, hc0, hc1, hc2]) rfl ⟨_, _, rfl, e1, e2⟩

    | true =>
      obtain ⟨x, d, rfl, rfl, hx, hd, hd0, g0, n0⟩ := ratOk_parts q0
      obtain ⟨y, e, rfl, rfl, hy, he, he0, g1, n1⟩ := ratOk_parts q1
      have HE := ratMul_yes q0 q1
      rw [HE.1, HE.2.1, HE.2.2]
      have E0 := Lib.hid q0
      have E1 := Lib.hid q1
      have CH := Lib.hid (And.intro hx (And.intro hd (And.intro hy (And.intro he (And.intro hd0 (And.intro he0 (And.intro g0 (And.intro g1 (And.intro n0 n1)))))))))
      clear HE q0 q1 hx hd hy he hd0 he0 g0 g1 n0 n1
      have H0 := Lib.hid h0
      have H1 := Lib.hid h1
      obtain ⟨⟨a0, c0, rfl, z1, z2, z3⟩, ⟨e0, f0, rfl, z4, z5, z6⟩⟩ := h0
      clear z1 z2 z3 z4 z5 z6
      obtain ⟨⟨a1, c1, rfl, z1, z2, z3⟩, ⟨e1, f1, rfl, z4, z5, z6⟩⟩ := h1
      clear z1 z2 z3 z4 z5 z6
      obtain ⟨nx, hnx⟩ : ∃ n, (limI x).length = n := ⟨_, rfl⟩
      rw [hnx] at H0
      try rw [hnx]
      have Nnx := Lib.hid hnx
      clear hnx
      obtain ⟨nd, hnd⟩ : ∃ n, (limI d).length = n := ⟨_, rfl⟩
      rw [hnd] at H0
      try rw [hnd]
      have Nnd := Lib.hid hnd
      clear hnd
      obtain ⟨ny, hny⟩ : ∃ n, (limI y).length = n := ⟨_, rfl⟩
      rw [hny] at H1
      try rw [hny]
      have Nny := Lib.hid hny
      clear hny
      obtain ⟨ne, hne⟩ : ∃ n, (limI e).length = n := ⟨_, rfl⟩
      rw [hne] at H1
      try rw [hne]
      have Nne := Lib.hid hne
      clear hne
      obtain ⟨SS, hSS⟩ : ∃ s, (!(b0 == b1)) = s := ⟨_, rfl⟩
      obtain ⟨XX, hXX⟩ : ∃ s, (lowX (x * y) (d * e)) = s := ⟨_, rfl⟩
      obtain ⟨DD, hDD⟩ : ∃ s, (lowD (x * y) (d * e)) = s := ⟨_, rfl⟩
      rw [hSS, hXX, hDD]
      have HE := Lib.hid (And.intro hSS (And.intro hXX hDD))
      clear hSS hXX hDD
      go_enter Try.func40, Try.ntmps40
      go_wp2_with fail
      obtain ⟨W0, hW0⟩ : ∃ x, x = (((w.alloc (.cells #[.bool b0, .slice a0 nx c0, .slice e0 nd f0] 31)).alloc (.cells #[.bool b1, .slice a1 ny c1, .slice e1 ne f1] 31)).alloc (.cells #[.bool false, .slice none 0 0, .slice none 0 0] 31)) := ⟨_, rfl⟩
      have B := Lib.hid (show Below w.heap.size w W0 by rw [hW0]; exact ((((Below.refl _ _).alloc (Nat.le_refl _) _).alloc (by simp) _).alloc (by simp; omega) _))
      have D_x := Lib.hid (rx_at (show Rx W0 _ 31 (b0) (.slice a0 nx c0) (.slice e0 nd f0) by rw [hW0]; exact ((Rx.new _ _ _ _ _).alloc _).alloc _) (show w.heap.size = _ by simp))
      have D_y := Lib.hid (rx_at (show Rx W0 _ 31 (b1) (.slice a1 ny c1) (.slice e1 ne f1) by rw [hW0]; exact (Rx.new _ _ _ _ _).alloc _) (show (w.heap.size + 1) = _ by simp))
      have D_r := Lib.hid (rx_at (show Rx W0 _ 31 (false) (.slice none 0 0) (.slice none 0 0) by rw [hW0]; exact Rx.new _ _ _ _ _) (show (w.heap.size + 1 + 1) = _ by simp))
      have SZ := Lib.hid (show W0.heap.size = w.heap.size + 1 + 1 + 1 by rw [hW0]; simp)
      rw [← hW0]
      clear hW0
      have BB := Lib.hid (Below.refl W0.heap.size W0)
      refine (spec_ratOkR b0 _ (limI x) _ (limI d) _ _ (H0.out.below B.out) E0.out).mono ?_
      rintro e w1 ⟨rfl, bw1⟩
      replace B := Lib.hid (B.out.trans (bw1.mono B.out.size))
      replace BB := Lib.hid (BB.out.trans (bw1.mono BB.out.size))
      clear bw1
      have c0_y := (D_y.out.below BB.out).c0
      have c1_y := (D_y.out.below BB.out).c1
      have c2_y := (D_y.out.below BB.out).c2
      go_wp2_with fail
      clear c0_y c1_y c2_y
      refine (spec_ratOkR b1 _ (limI y) _ (limI e) _ _ (H1.out.below B.out) E1.out).mono ?_
      rintro e w2 ⟨rfl, bw2⟩
      replace B := Lib.hid (B.out.trans (bw2.mono B.out.size))
      replace BB := Lib.hid (BB.out.trans (bw2.mono BB.out.size))
      clear bw2
      have c0_x := (D_x.out.below BB.out).c0
      have c1_x := (D_x.out.below BB.out).c1
      have c2_x := (D_x.out.below BB.out).c2
      have c0_y := (D_y.out.below BB.out).c0
      have c1_y := (D_y.out.below BB.out).c1
      have c2_y := (D_y.out.below BB.out).c2
      go_wp2_with fail
      clear c0_x c1_x c2_x
      clear c0_y c1_y c2_y
      have hc9 := spec_mulR b0 _ x _ d b1 _ y _ e w2 (H0.out.below B.out) (H1.out.below B.out) CH.out.1 CH.out.2.1 CH.out.2.2.1 CH.out.2.2.2.1 CH.out.2.2.2.2.1 CH.out.2.2.2.2.2.1 CH.out.2.2.2.2.2.2.1 CH.out.2.2.2.2.2.2.2.1 CH.out.2.2.2.2.2.2.2.2.1 CH.out.2.2.2.2.2.2.2.2.2
      rw [HE.out.1, HE.out.2.1, HE.out.2.2] at hc9
      refine (hc9).mono ?_
      rintro e w3 ⟨v_q, d_q, rfl, u_q, bw3⟩
      obtain ⟨a_q, c_q, e_q, f_q, rfl, rfl⟩ := u_q.slices
      have hb5 := BB.out.size
      replace B := Lib.hid (B.out.trans (bw3.mono B.out.size))
      replace BB := Lib.hid (BB.out.trans (bw3.mono BB.out.size))
      clear bw3
      have c0_r := (D_r.out.below BB.out).c0
      have c1_r := (D_r.out.below BB.out).c1
      have c2_r := (D_r.out.below BB.out).c2
      have f0_r := (D_r.out.below BB.out).f 0
      have f1_r := (D_r.out.below BB.out).f 1
      have f2_r := (D_r.out.below BB.out).f 2
      obtain ⟨e1, e2⟩ := rat_end (b' := mkB SS XX DD) B.out (D_r.out.below BB.out) (OwnR.base (B' := W0.heap.size) u_q hb5) (by decide) (by have := SZ.out; omega) (by omega) (.slice a_q (mkZ XX DD).length c_q) (.slice e_q (mkD XX DD).length f_q)
      have D8 := Rx.set3 (b' := mkB SS XX DD) (v' := .slice a_q (mkZ XX DD).length c_q) (d' := .slice e_q (mkD XX DD).length f_q) (D_r.out.below BB.out)
      have hc0 := D8.c0; have hc1 := D8.c1; have hc2 := D8.c2
      go_wp2
      exact bodyPost_ret (v := .agg #[.bool (mkB SS XX DD), .slice a_q (mkZ XX DD).length c_q, .slice e_q (mkD XX DD).length f_q]) (by simp [results, Try.results40, go_sem, hc0, hc1, hc2]) rfl ⟨_, _, rfl, e1, e2⟩


set_option maxRecDepth 100000 in
set_option maxHeartbeats 2000000 in
theorem spec_ratDiv (b0 : Bool) (v0 : Value) (zs0 : List Int) (d0 : Value) (ds0 : List Int) (b1 : Bool) (v1 : Value) (zs1 : List Int) (d1 : Value) (ds1 : List Int) (w : World) (h0 : RowR w v0 zs0 d0 ds0) (h1 : RowR w v1 zs1 d1 ds1) :
    Calls Try.prog 42 #[.agg #[.bool b0, v0, d0], .agg #[.bool b1, v1, d1]] w fun r w' => ∃ v dd, r = .returned (.agg #[.bool (ratDivB b0 zs0 ds0 b1 zs1 ds1), v, dd]) ∧ OwnR w' w.heap.size v (ratDivZ b0 zs0 ds0 b1 zs1 ds1) dd (ratDivD b0 zs0 ds0 b1 zs1 ds1) ∧ Below w.heap.size w w' := by
  cases q0 : ratOk b0 zs0 ds0 with
  | false =>
    have HE := ratDiv_no (b1 := b1) (zs1 := zs1) (ds1 := ds1) (.inl q0)
    rw [HE.1, HE.2.1, HE.2.2]
    have E0 := Lib.hid q0
    clear HE q0
    have H0 := Lib.hid h0
    have H1 := Lib.hid h1
    obtain ⟨⟨a0, c0, rfl, z1, z2, z3⟩, ⟨e0, f0, rfl, z4, z5, z6⟩⟩ := h0
    clear z1 z2 z3 z4 z5 z6
    obtain ⟨⟨a1, c1, rfl, z1, z2, z3⟩, ⟨e1, f1, rfl, z4, z5, z6⟩⟩ := h1
    clear z1 z2 z3 z4 z5 z6
    obtain ⟨nx, hnx⟩ : ∃ n, zs0.length = n := ⟨_, rfl⟩
    rw [hnx] at H0
    try rw [hnx]
    have Nnx := Lib.hid hnx
    clear hnx
    obtain ⟨nd, hnd⟩ : ∃ n, ds0.length = n := ⟨_, rfl⟩
    rw [hnd] at H0
    try rw [hnd]
    have Nnd := Lib.hid hnd
    clear hnd
    obtain ⟨ny, hny⟩ : ∃ n, zs1.length = n := ⟨_, rfl⟩
    rw [hny] at H1
    try rw [hny]
    have Nny := Lib.hid hny
    clear hny
    obtain ⟨ne, hne⟩ : ∃ n, ds1.length = n := ⟨_, rfl⟩
    rw [hne] at H1
    try rw [hne]
    have Nne := Lib.hid hne
    clear hne
    go_enter Try.func42, Try.ntmps42
    go_wp2_with fail
    obtain ⟨W0, hW0⟩ : ∃ x, x = (((w.alloc (.cells #[.bool b0, .slice a0 nx c0, .slice e0 nd f0] 31)).alloc (.cells #[.bool b1, .slice a1 ny c1, .slice e1 ne f1] 31)).alloc (.cells #[.bool false, .slice none 0 0, .slice none 0 0] 31)) := ⟨_, rfl⟩
    have B := Lib.hid (show Below w.heap.size w W0 by rw [hW0]; exact ((((Below.refl _ _).alloc (Nat.le_refl _) _).alloc (by simp) _).alloc (by simp; omega) _))
    have D_x := Lib.hid (rx_at (show Rx W0 _ 31 (b0) (.slice a0 nx c0) (.slice e0 nd f0) by rw [hW0]; exact ((Rx.new _ _ _ _ _).alloc _).alloc _) (show w.heap.size = _ by simp))
    have D_y := Lib.hid (rx_at (show Rx W0 _ 31 (b1) (.slice a1 ny c1) (.slice e1 ne f1) by rw [hW0]; exact (Rx.new _ _ _ _ _).alloc _) (show (w.heap.size + 1) = _ by simp))
    have D_r := Lib.hid (rx_at (show Rx W0 _ 31 (false) (.slice none 0 0) (.slice none 0 0) by rw [hW0]; exact Rx.new _ _ _ _ _) (show (w.heap.size + 1 + 1) = _ by simp))
    have SZ := Lib.hid (show W0.heap.size = w.heap.size + 1 + 1 + 1 by rw [hW0]; simp)
    rw [← hW0]
    clear hW0
    have BB := Lib.hid (Below.refl W0.heap.size W0)
    refine (spec_ratOkR b0 _ zs0 _ ds0 _ _ (H0.out.below B.out) E0.out).mono ?_
    rintro e w1 ⟨rfl, bw1⟩
    replace B := Lib.hid (B.out.trans (bw1.mono B.out.size))
    replace BB := Lib.hid (BB.out.trans (bw1.mono BB.out.size))
    clear bw1
    have c0_r := (D_r.out.below BB.out).c0
    have c1_r := (D_r.out.below BB.out).c1
    have c2_r := (D_r.out.below BB.out).c2
    have f0_r := (D_r.out.below BB.out).f 0
    have f1_r := (D_r.out.below BB.out).f 1
    have f2_r := (D_r.out.below BB.out).f 2
    obtain ⟨e1, e2⟩ := rat_end (b' := false) B.out (D_r.out.below BB.out) (OwnR.nil _ W0.heap.size) (by decide) (by have := SZ.out; omega) (by omega) (.slice none 0 0) (.slice none 0 0)
    have D8 := Rx.set3 (b' := false) (v' := .slice none 0 0) (d' := .slice none 0 0) (D_r.out.below BB.out)
    have hc0 := D8.c0; have hc1 := D8.c1; have hc2 := D8.c2
    go_wp2
    exact bodyPost_ret (v := .agg #[.bool (false), .slice none 0 0, .slice none 0 0]) (by simp [results, Try.results42, go_sem, hc0, hc1, hc2]) rfl ⟨_, _, rfl, e1, e2⟩

  | true =>
    cases q1 : ratOk b1 zs1 ds1 with
    | false =>
      have HE := ratDiv_no (b0 := b0) (zs0 := zs0) (ds0 := ds0) (.inr q1)
      rw [HE.1, HE.2.1, HE.2.2]
      have E0 := Lib.hid q0
      have E1 := Lib.hid q1
      clear HE q0 q1
      have H0 := Lib.hid h0
      have H1 := Lib.hid h1
      obtain ⟨⟨a0, c0, rfl, z1, z2, z3⟩, ⟨e0, f0, rfl, z4, z5, z6⟩⟩ := h0
      clear z1 z2 z3 z4 z5 z6
      obtain ⟨⟨a1, c1, rfl, z1, z2, z3⟩, ⟨e1, f1, rfl, z4, z5, z6⟩⟩ := h1
      clear z1 z2 z3 z4 z5 z6
      obtain ⟨nx, hnx⟩ : ∃ n, zs0.length = n := ⟨_, rfl⟩
      rw [hnx] at H0
      try rw [hnx]
      have Nnx := Lib.hid hnx
      clear hnx
      obtain ⟨nd, hnd⟩ : ∃ n, ds0.length = n := ⟨_, rfl⟩
      rw [hnd] at H0
      try rw [hnd]
      have Nnd := Lib.hid hnd
      clear hnd
      obtain ⟨ny, hny⟩ : ∃ n, zs1.length = n := ⟨_, rfl⟩
      rw [hny] at H1
      try rw [hny]
      have Nny := Lib.hid hny
      clear hny
      obtain ⟨ne, hne⟩ : ∃ n, ds1.length = n := ⟨_, rfl⟩
      rw [hne] at H1
      try rw [hne]
      have Nne := Lib.hid hne
      clear hne
      go_enter Try.func42, Try.ntmps42
      go_wp2_with fail
      obtain ⟨W0, hW0⟩ : ∃ x, x = (((w.alloc (.cells #[.bool b0, .slice a0 nx c0, .slice e0 nd f0] 31)).alloc (.cells #[.bool b1, .slice a1 ny c1, .slice e1 ne f1] 31)).alloc (.cells #[.bool false, .slice none 0 0, .slice none 0 0] 31)) := ⟨_, rfl⟩
      have B := Lib.hid (show Below w.heap.size w W0 by rw [hW0]; exact ((((Below.refl _ _).alloc (Nat.le_refl _) _).alloc (by simp) _).alloc (by simp; omega) _))
      have D_x := Lib.hid (rx_at (show Rx W0 _ 31 (b0) (.slice a0 nx c0) (.slice e0 nd f0) by rw [hW0]; exact ((Rx.new _ _ _ _ _).alloc _).alloc _) (show w.heap.size = _ by simp))
      have D_y := Lib.hid (rx_at (show Rx W0 _ 31 (b1) (.slice a1 ny c1) (.slice e1 ne f1) by rw [hW0]; exact (Rx.new _ _ _ _ _).alloc _) (show (w.heap.size + 1) = _ by simp))
      have D_r := Lib.hid (rx_at (show Rx W0 _ 31 (false) (.slice none 0 0) (.slice none 0 0) by rw [hW0]; exact Rx.new _ _ _ _ _) (show (w.heap.size + 1 + 1) = _ by simp))
      have SZ := Lib.hid (show W0.heap.size = w.heap.size + 1 + 1 + 1 by rw [hW0]; simp)
      rw [← hW0]
      clear hW0
      have BB := Lib.hid (Below.refl W0.heap.size W0)
      refine (spec_ratOkR b0 _ zs0 _ ds0 _ _ (H0.out.below B.out) E0.out).mono ?_
      rintro e w1 ⟨rfl, bw1⟩
      replace B := Lib.hid (B.out.trans (bw1.mono B.out.size))
      replace BB := Lib.hid (BB.out.trans (bw1.mono BB.out.size))
      clear bw1
      have c0_y := (D_y.out.below BB.out).c0
      have c1_y := (D_y.out.below BB.out).c1
      have c2_y := (D_y.out.below BB.out).c2
      go_wp2_with fail
      clear c0_y c1_y c2_y
      refine (spec_ratOkR b1 _ zs1 _ ds1 _ _ (H1.out.below B.out) E1.out).mono ?_
      rintro e w2 ⟨rfl, bw2⟩
      replace B := Lib.hid (B.out.trans (bw2.mono B.out.size))
      replace BB := Lib.hid (BB.out.trans (bw2.mono BB.out.size))
      clear bw2
      have c0_r := (D_r.out.below BB.out).c0
      have c1_r := (D_r.out.below BB.out).c1
      have c2_r := (D_r.out.below BB.out).c2
      have f0_r := (D_r.out.below BB.out).f 0
      have f1_r := (D_r.out.below BB.out).f 1
      have f2_r := (D_r.out.below BB.out).f 2
      obtain ⟨e1, e2⟩ := rat_end (b' := false) B.out (D_r.out.below BB.out) (OwnR.nil _ W0.heap.size) (by decide) (by have := SZ.out; omega) (by omega) (.slice none 0 0) (.slice none 0 0)
      have D8 := Rx.set3 (b' := false) (v' := .slice none 0 0) (d' := .slice none 0 0) (D_r.out.below BB.out)
      have hc0 := D8.c0; have hc1 := D8.c1; have hc2 := D8.c2
      go_wp2
      exact bodyPost_ret (v := .agg #[.bool (false), .slice none 0 0, .slice none 0 0]) (by simp [results, Try.results42, go_sem, hc0, hc1, hc2]) rfl ⟨_, _, rfl, e1, e2⟩

    | true =>
      obtain ⟨x, d, rfl, rfl, hx, hd, hd0, g0, n0⟩ := ratOk_parts q0
      obtain ⟨y, e, rfl, rfl, hy, he, he0, g1, n1⟩ := ratOk_parts q1
      have HE := ratDiv_yes q0 q1
      rw [HE.1, HE.2.1, HE.2.2]
      have E0 := Lib.hid q0
      have E1 := Lib.hid q1
      have CH := Lib.hid (And.intro hx (And.intro hd (And.intro hy (And.intro he (And.intro hd0 (And.intro he0 (And.intro g0 (And.intro g1 (And.intro n0 n1)))))))))
      clear HE q0 q1 hx hd hy he hd0 he0 g0 g1 n0 n1
      have H0 := Lib.hid h0
      have H1 := Lib.hid h1
      obtain ⟨⟨a0, c0, rfl, z1, z2, z3⟩, ⟨e0, f0, rfl, z4, z5, z6⟩⟩ := h0
      clear z1 z2 z3 z4 z5 z6
      obtain ⟨⟨a1, c1, rfl, z1, z2, z3⟩, ⟨e1, f1, rfl, z4, z5, z6⟩⟩ := h1
      clear z1 z2 z3 z4 z5 z6
      obtain ⟨nx, hnx⟩ : ∃ n, (limI x).length = n := ⟨_, rfl⟩
      rw [hnx] at H0
      try rw [hnx]
      have Nnx := Lib.hid hnx
      clear hnx
      obtain ⟨nd, hnd⟩ : ∃ n, (limI d).length = n := ⟨_, rfl⟩
      rw [hnd] at H0
      try rw [hnd]
      have Nnd := Lib.hid hnd
      clear hnd
      obtain ⟨ny, hny⟩ : ∃ n, (limI y).length = n := ⟨_, rfl⟩
      rw [hny] at H1
      try rw [hny]
      have Nny := Lib.hid hny
      clear hny
      obtain ⟨ne, hne⟩ : ∃ n, (limI e).length = n := ⟨_, rfl⟩
      rw [hne] at H1
      try rw [hne]
      have Nne := Lib.hid hne
      clear hne
      obtain ⟨SS, hSS⟩ : ∃ s, (!(b0 == b1)) = s := ⟨_, rfl⟩
      obtain ⟨XX, hXX⟩ : ∃ s, (lowX (x * e) (d * y)) = s := ⟨_, rfl⟩
      obtain ⟨DD, hDD⟩ : ∃ s, (lowD (x * e) (d * y)) = s := ⟨_, rfl⟩
      rw [hSS, hXX, hDD]
      have HE := Lib.hid (And.intro hXX hDD)
      clear hXX hDD
      have P1 := Lib.hid (Nat.lt_trans (mul24 CH.out.1 CH.out.2.2.2.1) (pw_lt (by omega : 48 < 60)))
      have P2 := Lib.hid (Nat.lt_trans (mul24 CH.out.2.1 CH.out.2.2.1) (pw_lt (by omega : 48 < 60)))
      have B_x := Lib.hid ((nlen_le_iff _ _).2 CH.out.1)
      have B_d := Lib.hid ((nlen_le_iff _ _).2 CH.out.2.1)
      have B_y := Lib.hid ((nlen_le_iff _ _).2 CH.out.2.2.1)
      have B_e := Lib.hid ((nlen_le_iff _ _).2 CH.out.2.2.2.1)
      have RA_x := Lib.hid H0.out.1
      have RA_d := Lib.hid H0.out.2
      have RA_y := Lib.hid H1.out.1
      have RA_e := Lib.hid H1.out.2
      go_enter Try.func42, Try.ntmps42
      go_wp2_with fail
      obtain ⟨W0, hW0⟩ : ∃ x, x = (((w.alloc (.cells #[.bool b0, .slice a0 nx c0, .slice e0 nd f0] 31)).alloc (.cells #[.bool b1, .slice a1 ny c1, .slice e1 ne f1] 31)).alloc (.cells #[.bool false, .slice none 0 0, .slice none 0 0] 31)) := ⟨_, rfl⟩
      have B := Lib.hid (show Below w.heap.size w W0 by rw [hW0]; exact ((((Below.refl _ _).alloc (Nat.le_refl _) _).alloc (by simp) _).alloc (by simp; omega) _))
      have D_x := Lib.hid (rx_at (show Rx W0 _ 31 (b0) (.slice a0 nx c0) (.slice e0 nd f0) by rw [hW0]; exact ((Rx.new _ _ _ _ _).alloc _).alloc _) (show w.heap.size = _ by simp))
      have D_y := Lib.hid (rx_at (show Rx W0 _ 31 (b1) (.slice a1 ny c1) (.slice e1 ne f1) by rw [hW0]; exact (Rx.new _ _ _ _ _).alloc _) (show (w.heap.size + 1) = _ by simp))
      have D_r := Lib.hid (rx_at (show Rx W0 _ 31 (false) (.slice none 0 0) (.slice none 0 0) by rw [hW0]; exact Rx.new _ _ _ _ _) (show (w.heap.size + 1 + 1) = _ by simp))
      have SZ := Lib.hid (show W0.heap.size = w.heap.size + 1 + 1 + 1 by rw [hW0]; simp)
      rw [← hW0]
      clear hW0
      have BB := Lib.hid (Below.refl W0.heap.size W0)
      refine (spec_ratOkR b0 _ (limI x) _ (limI d) _ _ (H0.out.below B.out) E0.out).mono ?_
      rintro e w1 ⟨rfl, bw1⟩
      replace B := Lib.hid (B.out.trans (bw1.mono B.out.size))
      replace BB := Lib.hid (BB.out.trans (bw1.mono BB.out.size))
      clear bw1
      have c0_y := (D_y.out.below BB.out).c0
      have c1_y := (D_y.out.below BB.out).c1
      have c2_y := (D_y.out.below BB.out).c2
      go_wp2_with fail
      clear c0_y c1_y c2_y
      refine (spec_ratOkR b1 _ (limI y) _ (limI e) _ _ (H1.out.below B.out) E1.out).mono ?_
      rintro e w2 ⟨rfl, bw2⟩
      replace B := Lib.hid (B.out.trans (bw2.mono B.out.size))
      replace BB := Lib.hid (BB.out.trans (bw2.mono BB.out.size))
      clear bw2
      have K_a := Lib.hid (fun (W : World) (hW : Below w2.heap.size w2 W) => pre_own (R := fun v => v) (spec_mulAny _ _ x e W (rowOf_below (rowOf_below RA_x.out B.out) hW) (rowOf_below (rowOf_below RA_e.out B.out) hW) (by have := B_x.out; omega) (by have := B_e.out; omega)) hW)
      have K_b := Lib.hid (fun (W : World) (hW : Below w2.heap.size w2 W) => pre_own (R := fun v => v) (spec_mulAny _ _ d y W (rowOf_below (rowOf_below RA_d.out B.out) hW) (rowOf_below (rowOf_below RA_y.out B.out) hW) (by have := B_d.out; omega) (by have := B_y.out; omega)) hW)
      have K_q := Lib.hid (fun (W : World) (hW : Below w2.heap.size w2 W) (vv uu : Value) (hr : RowOf iV W vv (limI (x * e))) (hs : RowOf iV W uu (limI (d * y))) => pre_rat ((by have h := spec_low SS vv (x * e) uu (d * y) W hr hs P1.out P2.out; rw [HE.out.1, HE.out.2] at h; exact h)) hW)
      have c0_x := (D_x.out.below BB.out).c0
      have c1_x := (D_x.out.below BB.out).c1
      have c2_x := (D_x.out.below BB.out).c2
      have c0_y := (D_y.out.below BB.out).c0
      have c1_y := (D_y.out.below BB.out).c1
      have c2_y := (D_y.out.below BB.out).c2
      go_wp2_with fail
      have HS := Lib.hid (show ∀ W : World, Below w2.heap.size w2 W → (W.cell? ⟨w.heap.size, 0, none⟩ = some (.bool b0) ∧ W.cell? ⟨w.heap.size, 1, none⟩ = some (.slice a0 nx c0) ∧ W.cell? ⟨w.heap.size, 2, none⟩ = some (.slice e0 nd f0) ∧ W.cell? ⟨(w.heap.size + 1), 0, none⟩ = some (.bool b1) ∧ W.cell? ⟨(w.heap.size + 1), 1, none⟩ = some (.slice a1 ny c1) ∧ W.cell? ⟨(w.heap.size + 1), 2, none⟩ = some (.slice e1 ne f1)) from fun W hW => ⟨(hW.cell (p := ⟨w.heap.size, 0, none⟩) (D_x.out.below BB.out).lt).trans c0_x, (hW.cell (p := ⟨w.heap.size, 1, none⟩) (D_x.out.below BB.out).lt).trans c1_x, (hW.cell (p := ⟨w.heap.size, 2, none⟩) (D_x.out.below BB.out).lt).trans c2_x, (hW.cell (p := ⟨(w.heap.size + 1), 0, none⟩) (D_y.out.below BB.out).lt).trans c0_y, (hW.cell (p := ⟨(w.heap.size + 1), 1, none⟩) (D_y.out.below BB.out).lt).trans c1_y, (hW.cell (p := ⟨(w.heap.size + 1), 2, none⟩) (D_y.out.below BB.out).lt).trans c2_y⟩)
      have lt_x := (D_x.out.below BB.out).lt
      have lt_y := (D_y.out.below BB.out).lt
      have c0_r := (D_r.out.below BB.out).c0
      have c1_r := (D_r.out.below BB.out).c1
      have c2_r := (D_r.out.below BB.out).c2
      have f0_r := (D_r.out.below BB.out).f 0
      have f1_r := (D_r.out.below BB.out).f 1
      have f2_r := (D_r.out.below BB.out).f 2
      have HF := Lib.hid (show ∀ W : World, Below w2.heap.size w2 W → (W.cell? ⟨(w.heap.size + 1 + 1), 0, none⟩ = some (.bool false) ∧ W.cell? ⟨(w.heap.size + 1 + 1), 1, none⟩ = some (.slice none 0 0) ∧ W.cell? ⟨(w.heap.size + 1 + 1), 2, none⟩ = some (.slice none 0 0) ∧ W.frozen? ⟨(w.heap.size + 1 + 1), 0, none⟩ = false ∧ W.frozen? ⟨(w.heap.size + 1 + 1), 1, none⟩ = false ∧ W.frozen? ⟨(w.heap.size + 1 + 1), 2, none⟩ = false) from fun W hW => ⟨(hW.cell (p := ⟨(w.heap.size + 1 + 1), 0, none⟩) (D_r.out.below BB.out).lt).trans c0_r, (hW.cell (p := ⟨(w.heap.size + 1 + 1), 1, none⟩) (D_r.out.below BB.out).lt).trans c1_r, (hW.cell (p := ⟨(w.heap.size + 1 + 1), 2, none⟩) (D_r.out.below BB.out).lt).trans c2_r, (hW.frozen (p := ⟨(w.heap.size + 1 + 1), 0, none⟩) (D_r.out.below BB.out).lt).trans f0_r, (hW.frozen (p := ⟨(w.heap.size + 1 + 1), 1, none⟩) (D_r.out.below BB.out).lt).trans f1_r, (hW.frozen (p := ⟨(w.heap.size + 1 + 1), 2, none⟩) (D_r.out.below BB.out).lt).trans f2_r⟩)
      go_region_held3 (fun w' => w'.cell? ⟨w.heap.size, 0, none⟩ = some (.bool b0) ∧ w'.cell? ⟨w.heap.size, 1, none⟩ = some (.slice a0 nx c0) ∧ w'.cell? ⟨w.heap.size, 2, none⟩ = some (.slice e0 nd f0) ∧ w'.cell? ⟨(w.heap.size + 1), 0, none⟩ = some (.bool b1) ∧ w'.cell? ⟨(w.heap.size + 1), 1, none⟩ = some (.slice a1 ny c1) ∧ w'.cell? ⟨(w.heap.size + 1), 2, none⟩ = some (.slice e1 ne f1)) (first | exact HS.out _ (by first | with_reducible exact Below.refl _ _ | with_reducible exact (Below.refl _ _).drew | with_reducible exact bb_a | with_reducible exact bb_b | with_reducible exact bb_q) | exact ⟨(cell_far3 (show w.heap.size ≠ (w.heap.size + 1 + 1) from by omega) _ _ _).trans ((HS.out _ (by first | with_reducible exact Below.refl _ _ | with_reducible exact (Below.refl _ _).drew | with_reducible exact bb_a | with_reducible exact bb_b | with_reducible exact bb_q)).1), (cell_far3 (show w.heap.size ≠ (w.heap.size + 1 + 1) from by omega) _ _ _).trans ((HS.out _ (by first | with_reducible exact Below.refl _ _ | with_reducible exact (Below.refl _ _).drew | with_reducible exact bb_a | with_reducible exact bb_b | with_reducible exact bb_q)).2.1), (cell_far3 (show w.heap.size ≠ (w.heap.size + 1 + 1) from by omega) _ _ _).trans ((HS.out _ (by first | with_reducible exact Below.refl _ _ | with_reducible exact (Below.refl _ _).drew | with_reducible exact bb_a | with_reducible exact bb_b | with_reducible exact bb_q)).2.2.1), (cell_far3 (show (w.heap.size + 1) ≠ (w.heap.size + 1 + 1) from by omega) _ _ _).trans ((HS.out _ (by first | with_reducible exact Below.refl _ _ | with_reducible exact (Below.refl _ _).drew | with_reducible exact bb_a | with_reducible exact bb_b | with_reducible exact bb_q)).2.2.2.1), (cell_far3 (show (w.heap.size + 1) ≠ (w.heap.size + 1 + 1) from by omega) _ _ _).trans ((HS.out _ (by first | with_reducible exact Below.refl _ _ | with_reducible exact (Below.refl _ _).drew | with_reducible exact bb_a | with_reducible exact bb_b | with_reducible exact bb_q)).2.2.2.2.1), (cell_far3 (show (w.heap.size + 1) ≠ (w.heap.size + 1 + 1) from by omega) _ _ _).trans ((HS.out _ (by first | with_reducible exact Below.refl _ _ | with_reducible exact (Below.refl _ _).drew | with_reducible exact bb_a | with_reducible exact bb_b | with_reducible exact bb_q)).2.2.2.2.2)⟩)
        (first
          | (go_at_call 66; refine (K_q.out _ (by first | with_reducible exact Below.refl _ _ | with_reducible exact (Below.refl _ _).drew | with_reducible exact bb_a | with_reducible exact bb_b | with_reducible exact bb_q) _ _ (by first | with_reducible exact o_a.row) (by first | with_reducible exact o_b.row)).mono ?_; rintro e w_q ⟨v_q, d_q, rfl, u_q, lo_q, bw_q, bb_q⟩; obtain ⟨a_q, c_q, e_q, f_q, rfl, rfl⟩ := u_q.slices; (try first | with_reducible (have o_a := o_a.below bw_q)); (try first | with_reducible (have o_b := o_b.below bw_q)); obtain ⟨s0, s1, s2, t0, t1, t2⟩ := HF.out _ bb_q)
          | (go_at_call 85; with_reducible refine (K_b.out _ (by first | with_reducible exact Below.refl _ _ | with_reducible exact (Below.refl _ _).drew | with_reducible exact bb_a | with_reducible exact bb_b | with_reducible exact bb_q)).mono ?_; rintro e w_b ⟨v_b, rfl, o_b, lo_b, bw_b, bb_b⟩; obtain ⟨a_b, c_b, rfl⟩ := o_b.slice; (try first | with_reducible (have o_a := o_a.below bw_b)); (try first | with_reducible (have u_q := u_q.below bw_b)); obtain ⟨s0, s1, s2, t0, t1, t2⟩ := HF.out _ bb_b)
          | (go_at_call 85; with_reducible refine (K_a.out _ (by first | with_reducible exact Below.refl _ _ | with_reducible exact (Below.refl _ _).drew | with_reducible exact bb_a | with_reducible exact bb_b | with_reducible exact bb_q)).mono ?_; rintro e w_a ⟨v_a, rfl, o_a, lo_a, bw_a, bb_a⟩; obtain ⟨a_a, c_a, rfl⟩ := o_a.slice; (try first | with_reducible (have o_b := o_b.below bw_a)); (try first | with_reducible (have u_q := u_q.below bw_a)); obtain ⟨s0, s1, s2, t0, t1, t2⟩ := HF.out _ bb_a))
      all_goals (have D9 := D_r.out.below (BB.out.trans (bb_q.mono BB.out.size)); obtain ⟨e1, e2⟩ := rat_end (b' := mkB SS XX DD) (B.out.trans (bb_q.mono B.out.size)) D9 (OwnR.base (B' := W0.heap.size) u_q BB.out.size) (by decide) (by have := SZ.out; omega) (by omega) (.slice a_q (mkZ XX DD).length c_q) (.slice e_q (mkD XX DD).length f_q); have D8 := Rx.set3 (b' := mkB SS XX DD) (v' := .slice a_q (mkZ XX DD).length c_q) (d' := .slice e_q (mkD XX DD).length f_q) D9; have hc0 := D8.c0; have hc1 := D8.c1; have hc2 := D8.c2; go_wp2; exact bodyPost_ret (v := .agg #[.bool (mkB SS XX DD), .slice a_q (mkZ XX DD).length c_q, .slice e_q (mkD XX DD).length f_q]) (by simp [results, Try.results42, go_sem, hc0, hc1, hc2]) rfl ⟨_, _, rfl, e1, e2⟩)


set_option maxRecDepth 100000 in
set_option maxHeartbeats 2000000 in
theorem spec_ratCmp (b0 : Bool) (v0 : Value) (zs0 : List Int) (d0 : Value) (ds0 : List Int) (b1 : Bool) (v1 : Value) (zs1 : List Int) (d1 : Value) (ds1 : List Int) (w : World) (h0 : RowR w v0 zs0 d0 ds0) (h1 : RowR w v1 zs1 d1 ds1) :
    Calls Try.prog 44 #[.agg #[.bool b0, v0, d0], .agg #[.bool b1, v1, d1]] w fun r w' => r = .returned (.int .i64 (ratCmpI b0 zs0 ds0 b1 zs1 ds1)) ∧ Below w.heap.size w w' := by
  cases q0 : ratOk b0 zs0 ds0 with
  | false =>
    have HE := ratCmp_no (b1 := b1) (zs1 := zs1) (ds1 := ds1) (.inl q0)
    rw [HE]
    have E0 := Lib.hid q0
    clear HE q0
    have H0 := Lib.hid h0
    have H1 := Lib.hid h1
    obtain ⟨⟨a0, c0, rfl, z1, z2, z3⟩, ⟨e0, f0, rfl, z4, z5, z6⟩⟩ := h0
    clear z1 z2 z3 z4 z5 z6
    obtain ⟨⟨a1, c1, rfl, z1, z2, z3⟩, ⟨e1, f1, rfl, z4, z5, z6⟩⟩ := h1
    clear z1 z2 z3 z4 z5 z6
    obtain ⟨nx, hnx⟩ : ∃ n, zs0.length = n := ⟨_, rfl⟩
    rw [hnx] at H0
    try rw [hnx]
    have Nnx := Lib.hid hnx
    clear hnx
    obtain ⟨nd, hnd⟩ : ∃ n, ds0.length = n := ⟨_, rfl⟩
    rw [hnd] at H0
    try rw [hnd]
    have Nnd := Lib.hid hnd
    clear hnd
    obtain ⟨ny, hny⟩ : ∃ n, zs1.length = n := ⟨_, rfl⟩
    rw [hny] at H1
    try rw [hny]
    have Nny := Lib.hid hny
    clear hny
    obtain ⟨ne, hne⟩ : ∃ n, ds1.length = n := ⟨_, rfl⟩
    rw [hne] at H1
    try rw [hne]
    have Nne := Lib.hid hne
    clear hne
    go_enter Try.func44, Try.ntmps44
    go_wp2_with fail
    obtain ⟨W0, hW0⟩ : ∃ x, x = ((w.alloc (.cells #[.bool b0, .slice a0 nx c0, .slice e0 nd f0] 31)).alloc (.cells #[.bool b1, .slice a1 ny c1, .slice e1 ne f1] 31)) := ⟨_, rfl⟩
    have B := Lib.hid (show Below w.heap.size w W0 by rw [hW0]; exact (((Below.refl _ _).alloc (Nat.le_refl _) _).alloc (by simp) _))
    have D_x := Lib.hid (rx_at (show Rx W0 _ 31 (b0) (.slice a0 nx c0) (.slice e0 nd f0) by rw [hW0]; exact (Rx.new _ _ _ _ _).alloc _) (show w.heap.size = _ by simp))
    have D_y := Lib.hid (rx_at (show Rx W0 _ 31 (b1) (.slice a1 ny c1) (.slice e1 ne f1) by rw [hW0]; exact Rx.new _ _ _ _ _) (show (w.heap.size + 1) = _ by simp))
    have SZ := Lib.hid (show W0.heap.size = w.heap.size + 1 + 1 by rw [hW0]; simp)
    rw [← hW0]
    clear hW0
    have BB := Lib.hid (Below.refl W0.heap.size W0)
    refine (spec_ratOkR b0 _ zs0 _ ds0 _ _ (H0.out.below B.out) E0.out).mono ?_
    rintro e w1 ⟨rfl, bw1⟩
    replace B := Lib.hid (B.out.trans (bw1.mono B.out.size))
    replace BB := Lib.hid (BB.out.trans (bw1.mono BB.out.size))
    clear bw1
    go_wp2
    go_ret
    exact ⟨rfl, B.out⟩

  | true =>
    cases q1 : ratOk b1 zs1 ds1 with
    | false =>
      have HE := ratCmp_no (b0 := b0) (zs0 := zs0) (ds0 := ds0) (.inr q1)
      rw [HE]
      have E0 := Lib.hid q0
      have E1 := Lib.hid q1
      clear HE q0 q1
      have H0 := Lib.hid h0
      have H1 := Lib.hid h1
      obtain ⟨⟨a0, c0, rfl, z1, z2, z3⟩, ⟨e0, f0, rfl, z4, z5, z6⟩⟩ := h0
      clear z1 z2 z3 z4 z5 z6
      obtain ⟨⟨a1, c1, rfl, z1, z2, z3⟩, ⟨e1, f1, rfl, z4, z5, z6⟩⟩ := h1
      clear z1 z2 z3 z4 z5 z6
      obtain ⟨nx, hnx⟩ : ∃ n, zs0.length = n := ⟨_, rfl⟩
      rw [hnx] at H0
      try rw [hnx]
      have Nnx := Lib.hid hnx
      clear hnx
      obtain ⟨nd, hnd⟩ : ∃ n, ds0.length = n := ⟨_, rfl⟩
      rw [hnd] at H0
      try rw [hnd]
      have Nnd := Lib.hid hnd
      clear hnd
      obtain ⟨ny, hny⟩ : ∃ n, zs1.length = n := ⟨_, rfl⟩
      rw [hny] at H1
      try rw [hny]
      have Nny := Lib.hid hny
      clear hny
      obtain ⟨ne, hne⟩ : ∃ n, ds1.length = n := ⟨_, rfl⟩
      rw [hne] at H1
      try rw [hne]
      have Nne := Lib.hid hne
      clear hne
      go_enter Try.func44, Try.ntmps44
      go_wp2_with fail
      obtain ⟨W0, hW0⟩ : ∃ x, x = ((w.alloc (.cells #[.bool b0, .slice a0 nx c0, .slice e0 nd f0] 31)).alloc (.cells #[.bool b1, .slice a1 ny c1, .slice e1 ne f1] 31)) := ⟨_, rfl⟩
      have B := Lib.hid (show Below w.heap.size w W0 by rw [hW0]; exact (((Below.refl _ _).alloc (Nat.le_refl _) _).alloc (by simp) _))
      have D_x := Lib.hid (rx_at (show Rx W0 _ 31 (b0) (.slice a0 nx c0) (.slice e0 nd f0) by rw [hW0]; exact (Rx.new _ _ _ _ _).alloc _) (show w.heap.size = _ by simp))
      have D_y := Lib.hid (rx_at (show Rx W0 _ 31 (b1) (.slice a1 ny c1) (.slice e1 ne f1) by rw [hW0]; exact Rx.new _ _ _ _ _) (show (w.heap.size + 1) = _ by simp))
      have SZ := Lib.hid (show W0.heap.size = w.heap.size + 1 + 1 by rw [hW0]; simp)
      rw [← hW0]
      clear hW0
      have BB := Lib.hid (Below.refl W0.heap.size W0)
      refine (spec_ratOkR b0 _ zs0 _ ds0 _ _ (H0.out.below B.out) E0.out).mono ?_
      rintro e w1 ⟨rfl, bw1⟩
      replace B := Lib.hid (B.out.trans (bw1.mono B.out.size))
      replace BB := Lib.hid (BB.out.trans (bw1.mono BB.out.size))
      clear bw1
      have c0_y := (D_y.out.below BB.out).c0
      have c1_y := (D_y.out.below BB.out).c1
      have c2_y := (D_y.out.below BB.out).c2
      go_wp2_with fail
      clear c0_y c1_y c2_y
      refine (spec_ratOkR b1 _ zs1 _ ds1 _ _ (H1.out.below B.out) E1.out).mono ?_
      rintro e w2 ⟨rfl, bw2⟩
      replace B := Lib.hid (B.out.trans (bw2.mono B.out.size))
      replace BB := Lib.hid (BB.out.trans (bw2.mono BB.out.size))
      clear bw2
      go_wp2
      go_ret
      exact ⟨rfl, B.out⟩

    | true =>
      obtain ⟨x, d, rfl, rfl, hx, hd, hd0, g0, n0⟩ := ratOk_parts q0
      obtain ⟨y, e, rfl, rfl, hy, he, he0, g1, n1⟩ := ratOk_parts q1
      have HE := ratCmp_yes q0 q1
      rw [HE]
      have E0 := Lib.hid q0
      have E1 := Lib.hid q1
      have CH := Lib.hid (And.intro hx (And.intro hd (And.intro hy (And.intro he (And.intro hd0 (And.intro he0 (And.intro g0 (And.intro g1 (And.intro n0 n1)))))))))
      clear HE q0 q1 hx hd hy he hd0 he0 g0 g1 n0 n1
      have H0 := Lib.hid h0
      have H1 := Lib.hid h1
      obtain ⟨⟨a0, c0, rfl, z1, z2, z3⟩, ⟨e0, f0, rfl, z4, z5, z6⟩⟩ := h0
      clear z1 z2 z3 z4 z5 z6
      obtain ⟨⟨a1, c1, rfl, z1, z2, z3⟩, ⟨e1, f1, rfl, z4, z5, z6⟩⟩ := h1
      clear z1 z2 z3 z4 z5 z6
      obtain ⟨nx, hnx⟩ : ∃ n, (limI x).length = n := ⟨_, rfl⟩
      rw [hnx] at H0
      try rw [hnx]
      have Nnx := Lib.hid hnx
      clear hnx
      obtain ⟨nd, hnd⟩ : ∃ n, (limI d).length = n := ⟨_, rfl⟩
      rw [hnd] at H0
      try rw [hnd]
      have Nnd := Lib.hid hnd
      clear hnd
      obtain ⟨ny, hny⟩ : ∃ n, (limI y).length = n := ⟨_, rfl⟩
      rw [hny] at H1
      try rw [hny]
      have Nny := Lib.hid hny
      clear hny
      obtain ⟨ne, hne⟩ : ∃ n, (limI e).length = n := ⟨_, rfl⟩
      rw [hne] at H1
      try rw [hne]
      have Nne := Lib.hid hne
      clear hne
      go_enter Try.func44, Try.ntmps44
      go_wp2_with fail
      obtain ⟨W0, hW0⟩ : ∃ x, x = ((w.alloc (.cells #[.bool b0, .slice a0 nx c0, .slice e0 nd f0] 31)).alloc (.cells #[.bool b1, .slice a1 ny c1, .slice e1 ne f1] 31)) := ⟨_, rfl⟩
      have B := Lib.hid (show Below w.heap.size w W0 by rw [hW0]; exact (((Below.refl _ _).alloc (Nat.le_refl _) _).alloc (by simp) _))
      have D_x := Lib.hid (rx_at (show Rx W0 _ 31 (b0) (.slice a0 nx c0) (.slice e0 nd f0) by rw [hW0]; exact (Rx.new _ _ _ _ _).alloc _) (show w.heap.size = _ by simp))
      have D_y := Lib.hid (rx_at (show Rx W0 _ 31 (b1) (.slice a1 ny c1) (.slice e1 ne f1) by rw [hW0]; exact Rx.new _ _ _ _ _) (show (w.heap.size + 1) = _ by simp))
      have SZ := Lib.hid (show W0.heap.size = w.heap.size + 1 + 1 by rw [hW0]; simp)
      rw [← hW0]
      clear hW0
      have BB := Lib.hid (Below.refl W0.heap.size W0)
      refine (spec_ratOkR b0 _ (limI x) _ (limI d) _ _ (H0.out.below B.out) E0.out).mono ?_
      rintro e w1 ⟨rfl, bw1⟩
      replace B := Lib.hid (B.out.trans (bw1.mono B.out.size))
      replace BB := Lib.hid (BB.out.trans (bw1.mono BB.out.size))
      clear bw1
      have c0_y := (D_y.out.below BB.out).c0
      have c1_y := (D_y.out.below BB.out).c1
      have c2_y := (D_y.out.below BB.out).c2
      go_wp2_with fail
      clear c0_y c1_y c2_y
      refine (spec_ratOkR b1 _ (limI y) _ (limI e) _ _ (H1.out.below B.out) E1.out).mono ?_
      rintro e w2 ⟨rfl, bw2⟩
      replace B := Lib.hid (B.out.trans (bw2.mono B.out.size))
      replace BB := Lib.hid (BB.out.trans (bw2.mono BB.out.size))
      clear bw2
      have c0_x := (D_x.out.below BB.out).c0
      have c1_x := (D_x.out.below BB.out).c1
      have c2_x := (D_x.out.below BB.out).c2
      have c0_y := (D_y.out.below BB.out).c0
      have c1_y := (D_y.out.below BB.out).c1
      have c2_y := (D_y.out.below BB.out).c2
      go_wp2_with fail
      clear c0_x c1_x c2_x
      clear c0_y c1_y c2_y
      refine (spec_cmpR b0 _ x _ d b1 _ y _ e _ (H0.out.below B.out) (H1.out.below B.out) CH.out.1 CH.out.2.1 CH.out.2.2.1 CH.out.2.2.2.1 CH.out.2.2.2.2.1 CH.out.2.2.2.2.2.1 CH.out.2.2.2.2.2.2.1 CH.out.2.2.2.2.2.2.2.1 CH.out.2.2.2.2.2.2.2.2.1 CH.out.2.2.2.2.2.2.2.2.2).mono ?_
      rintro r5 w5 ⟨rfl, b5⟩
      go_wp2
      go_ret
      exact ⟨rfl, B.out.trans (b5.mono B.out.size)⟩


set_option maxRecDepth 100000 in
set_option maxHeartbeats 2000000 in
theorem impl_ratCmp (b0 : Bool) (v0 : Value) (zs0 : List Int) (d0 : Value) (ds0 : List Int) (b1 : Bool) (v1 : Value) (zs1 : List Int) (d1 : Value) (ds1 : List Int) (w : World) (h0 : RowR w v0 zs0 d0 ds0) (h1 : RowR w v1 zs1 d1 ds1) :
    Calls Try.prog 45 #[.agg #[.bool b0, v0, d0], .agg #[.bool b1, v1, d1]] w fun r w' => r = .returned (.int .i64 (ratCmpI b0 zs0 ds0 b1 zs1 ds1)) ∧ Below w.heap.size w w' := by
  cases q0 : ratOk b0 zs0 ds0 with
  | false =>
    have HE := ratCmp_no (b1 := b1) (zs1 := zs1) (ds1 := ds1) (.inl q0)
    rw [HE]
    have E0 := Lib.hid q0
    clear HE q0
    have H0 := Lib.hid h0
    have H1 := Lib.hid h1
    obtain ⟨⟨a0, c0, rfl, z1, z2, z3⟩, ⟨e0, f0, rfl, z4, z5, z6⟩⟩ := h0
    clear z1 z2 z3 z4 z5 z6
    obtain ⟨⟨a1, c1, rfl, z1, z2, z3⟩, ⟨e1, f1, rfl, z4, z5, z6⟩⟩ := h1
    clear z1 z2 z3 z4 z5 z6
    obtain ⟨nx, hnx⟩ : ∃ n, zs0.length = n := ⟨_, rfl⟩
    rw [hnx] at H0
    try rw [hnx]
    have Nnx := Lib.hid hnx
    clear hnx
    obtain ⟨nd, hnd⟩ : ∃ n, ds0.length = n := ⟨_, rfl⟩
    rw [hnd] at H0
    try rw [hnd]
    have Nnd := Lib.hid hnd
    clear hnd
    obtain ⟨ny, hny⟩ : ∃ n, zs1.length = n := ⟨_, rfl⟩
    rw [hny] at H1
    try rw [hny]
    have Nny := Lib.hid hny
    clear hny
    obtain ⟨ne, hne⟩ : ∃ n, ds1.length = n := ⟨_, rfl⟩
    rw [hne] at H1
    try rw [hne]
    have Nne := Lib.hid hne
    clear hne
    go_enter Try.func45, Try.ntmps45
    go_wp2_with fail
    obtain ⟨W0, hW0⟩ : ∃ x, x = ((w.alloc (.cells #[.bool b0, .slice a0 nx c0, .slice e0 nd f0] 31)).alloc (.cells #[.bool b1, .slice a1 ny c1, .slice e1 ne f1] 31)) := ⟨_, rfl⟩
    have B := Lib.hid (show Below w.heap.size w W0 by rw [hW0]; exact (((Below.refl _ _).alloc (Nat.le_refl _) _).alloc (by simp) _))
    have D_x := Lib.hid (rx_at (show Rx W0 _ 31 (b0) (.slice a0 nx c0) (.slice e0 nd f0) by rw [hW0]; exact (Rx.new _ _ _ _ _).alloc _) (show w.heap.size = _ by simp))
    have D_y := Lib.hid (rx_at (show Rx W0 _ 31 (b1) (.slice a1 ny c1) (.slice e1 ne f1) by rw [hW0]; exact Rx.new _ _ _ _ _) (show (w.heap.size + 1) = _ by simp))
    have SZ := Lib.hid (show W0.heap.size = w.heap.size + 1 + 1 by rw [hW0]; simp)
    rw [← hW0]
    clear hW0
    have BB := Lib.hid (Below.refl W0.heap.size W0)
    refine (impl_ratOkR2 b0 _ zs0 _ ds0 _ _ (H0.out.below B.out) E0.out).mono ?_
    rintro e w1 ⟨rfl, bw1⟩
    replace B := Lib.hid (B.out.trans (bw1.mono B.out.size))
    replace BB := Lib.hid (BB.out.trans (bw1.mono BB.out.size))
    clear bw1
    go_wp2
    go_ret
    exact ⟨rfl, B.out⟩

  | true =>
    cases q1 : ratOk b1 zs1 ds1 with
    | false =>
      have HE := ratCmp_no (b0 := b0) (zs0 := zs0) (ds0 := ds0) (.inr q1)
      rw [HE]
      have E0 := Lib.hid q0
      have E1 := Lib.hid q1
      clear HE q0 q1
      have H0 := Lib.hid h0
      have H1 := Lib.hid h1
      obtain ⟨⟨a0, c0, rfl, z1, z2, z3⟩, ⟨e0, f0, rfl, z4, z5, z6⟩⟩ := h0
      clear z1 z2 z3 z4 z5 z6
      obtain ⟨⟨a1, c1, rfl, z1, z2, z3⟩, ⟨e1, f1, rfl, z4, z5, z6⟩⟩ := h1
      clear z1 z2 z3 z4 z5 z6
      obtain ⟨nx, hnx⟩ : ∃ n, zs0.length = n := ⟨_, rfl⟩
      rw [hnx] at H0
      try rw [hnx]
      have Nnx := Lib.hid hnx
      clear hnx
      obtain ⟨nd, hnd⟩ : ∃ n, ds0.length = n := ⟨_, rfl⟩
      rw [hnd] at H0
      try rw [hnd]
      have Nnd := Lib.hid hnd
      clear hnd
      obtain ⟨ny, hny⟩ : ∃ n, zs1.length = n := ⟨_, rfl⟩
      rw [hny] at H1
      try rw [hny]
      have Nny := Lib.hid hny
      clear hny
      obtain ⟨ne, hne⟩ : ∃ n, ds1.length = n := ⟨_, rfl⟩
      rw [hne] at H1
      try rw [hne]
      have Nne := Lib.hid hne
      clear hne
      go_enter Try.func45, Try.ntmps45
      go_wp2_with fail
      obtain ⟨W0, hW0⟩ : ∃ x, x = ((w.alloc (.cells #[.bool b0, .slice a0 nx c0, .slice e0 nd f0] 31)).alloc (.cells #[.bool b1, .slice a1 ny c1, .slice e1 ne f1] 31)) := ⟨_, rfl⟩
      have B := Lib.hid (show Below w.heap.size w W0 by rw [hW0]; exact (((Below.refl _ _).alloc (Nat.le_refl _) _).alloc (by simp) _))
      have D_x := Lib.hid (rx_at (show Rx W0 _ 31 (b0) (.slice a0 nx c0) (.slice e0 nd f0) by rw [hW0]; exact (Rx.new _ _ _ _ _).alloc _) (show w.heap.size = _ by simp))
      have D_y := Lib.hid (rx_at (show Rx W0 _ 31 (b1) (.slice a1 ny c1) (.slice e1 ne f1) by rw [hW0]; exact Rx.new _ _ _ _ _) (show (w.heap.size + 1) = _ by simp))
      have SZ := Lib.hid (show W0.heap.size = w.heap.size + 1 + 1 by rw [hW0]; simp)
      rw [← hW0]
      clear hW0
      have BB := Lib.hid (Below.refl W0.heap.size W0)
      refine (impl_ratOkR2 b0 _ zs0 _ ds0 _ _ (H0.out.below B.out) E0.out).mono ?_
      rintro e w1 ⟨rfl, bw1⟩
      replace B := Lib.hid (B.out.trans (bw1.mono B.out.size))
      replace BB := Lib.hid (BB.out.trans (bw1.mono BB.out.size))
      clear bw1
      have c0_y := (D_y.out.below BB.out).c0
      have c1_y := (D_y.out.below BB.out).c1
      have c2_y := (D_y.out.below BB.out).c2
      go_wp2_with fail
      clear c0_y c1_y c2_y
      refine (impl_ratOkR2 b1 _ zs1 _ ds1 _ _ (H1.out.below B.out) E1.out).mono ?_
      rintro e w2 ⟨rfl, bw2⟩
      replace B := Lib.hid (B.out.trans (bw2.mono B.out.size))
      replace BB := Lib.hid (BB.out.trans (bw2.mono BB.out.size))
      clear bw2
      go_wp2
      go_ret
      exact ⟨rfl, B.out⟩

    | true =>
      obtain ⟨x, d, rfl, rfl, hx, hd, hd0, g0, n0⟩ := ratOk_parts q0
      obtain ⟨y, e, rfl, rfl, hy, he, he0, g1, n1⟩ := ratOk_parts q1
      have HE := ratCmp_yes q0 q1
      rw [HE]
      have E0 := Lib.hid q0
      have E1 := Lib.hid q1
      have CH := Lib.hid (And.intro hx (And.intro hd (And.intro hy (And.intro he (And.intro hd0 (And.intro he0 (And.intro g0 (And.intro g1 (And.intro n0 n1)))))))))
      clear HE q0 q1 hx hd hy he hd0 he0 g0 g1 n0 n1
      have H0 := Lib.hid h0
      have H1 := Lib.hid h1
      obtain ⟨⟨a0, c0, rfl, z1, z2, z3⟩, ⟨e0, f0, rfl, z4, z5, z6⟩⟩ := h0
      clear z1 z2 z3 z4 z5 z6
      obtain ⟨⟨a1, c1, rfl, z1, z2, z3⟩, ⟨e1, f1, rfl, z4, z5, z6⟩⟩ := h1
      clear z1 z2 z3 z4 z5 z6
      obtain ⟨nx, hnx⟩ : ∃ n, (limI x).length = n := ⟨_, rfl⟩
      rw [hnx] at H0
      try rw [hnx]
      have Nnx := Lib.hid hnx
      clear hnx
      obtain ⟨nd, hnd⟩ : ∃ n, (limI d).length = n := ⟨_, rfl⟩
      rw [hnd] at H0
      try rw [hnd]
      have Nnd := Lib.hid hnd
      clear hnd
      obtain ⟨ny, hny⟩ : ∃ n, (limI y).length = n := ⟨_, rfl⟩
      rw [hny] at H1
      try rw [hny]
      have Nny := Lib.hid hny
      clear hny
      obtain ⟨ne, hne⟩ : ∃ n, (limI e).length = n := ⟨_, rfl⟩
      rw [hne] at H1
      try rw [hne]
      have Nne := Lib.hid hne
      clear hne
      go_enter Try.func45, Try.ntmps45
      go_wp2_with fail
      obtain ⟨W0, hW0⟩ : ∃ x, x = ((w.alloc (.cells #[.bool b0, .slice a0 nx c0, .slice e0 nd f0] 31)).alloc (.cells #[.bool b1, .slice a1 ny c1, .slice e1 ne f1] 31)) := ⟨_, rfl⟩
      have B := Lib.hid (show Below w.heap.size w W0 by rw [hW0]; exact (((Below.refl _ _).alloc (Nat.le_refl _) _).alloc (by simp) _))
      have D_x := Lib.hid (rx_at (show Rx W0 _ 31 (b0) (.slice a0 nx c0) (.slice e0 nd f0) by rw [hW0]; exact (Rx.new _ _ _ _ _).alloc _) (show w.heap.size = _ by simp))
      have D_y := Lib.hid (rx_at (show Rx W0 _ 31 (b1) (.slice a1 ny c1) (.slice e1 ne f1) by rw [hW0]; exact Rx.new _ _ _ _ _) (show (w.heap.size + 1) = _ by simp))
      have SZ := Lib.hid (show W0.heap.size = w.heap.size + 1 + 1 by rw [hW0]; simp)
      rw [← hW0]
      clear hW0
      have BB := Lib.hid (Below.refl W0.heap.size W0)
      refine (impl_ratOkR2 b0 _ (limI x) _ (limI d) _ _ (H0.out.below B.out) E0.out).mono ?_
      rintro e w1 ⟨rfl, bw1⟩
      replace B := Lib.hid (B.out.trans (bw1.mono B.out.size))
      replace BB := Lib.hid (BB.out.trans (bw1.mono BB.out.size))
      clear bw1
      have c0_y := (D_y.out.below BB.out).c0
      have c1_y := (D_y.out.below BB.out).c1
      have c2_y := (D_y.out.below BB.out).c2
      go_wp2_with fail
      clear c0_y c1_y c2_y
      refine (impl_ratOkR2 b1 _ (limI y) _ (limI e) _ _ (H1.out.below B.out) E1.out).mono ?_
      rintro e w2 ⟨rfl, bw2⟩
      replace B := Lib.hid (B.out.trans (bw2.mono B.out.size))
      replace BB := Lib.hid (BB.out.trans (bw2.mono BB.out.size))
      clear bw2
      have c0_x := (D_x.out.below BB.out).c0
      have c1_x := (D_x.out.below BB.out).c1
      have c2_x := (D_x.out.below BB.out).c2
      have c0_y := (D_y.out.below BB.out).c0
      have c1_y := (D_y.out.below BB.out).c1
      have c2_y := (D_y.out.below BB.out).c2
      go_wp2_with fail
      clear c0_x c1_x c2_x
      clear c0_y c1_y c2_y
      refine (impl_compareR b0 _ x _ d b1 _ y _ e _ (H0.out.below B.out) (H1.out.below B.out) CH.out.1 CH.out.2.1 CH.out.2.2.1 CH.out.2.2.2.1 CH.out.2.2.2.2.1 CH.out.2.2.2.2.2.1 CH.out.2.2.2.2.2.2.1 CH.out.2.2.2.2.2.2.2.1 CH.out.2.2.2.2.2.2.2.2.1 CH.out.2.2.2.2.2.2.2.2.2).mono ?_
      rintro r5 w5 ⟨rfl, b5⟩
      go_wp2
      go_ret
      exact ⟨rfl, B.out.trans (b5.mono B.out.size)⟩


end Go.Proofs.Ytgoonbjhfbnaiaa
