/- RatAdd, RatSub, RatMul, RatDiv, RatMin, RatMax of the program: through the fold. -/
import Derived.Test.YtgoonbjhfbnaiaaRatFold
import Derived.Test.YtgoonbjhfbnaiaaRatNums
namespace Go.Proofs.Ytgoonbjhfbnaiaa
open Go.RowKit Go.WideShapes Go.ChangeShapes
set_option linter.unusedVariables false
set_option linter.unusedSimpArgs false

theorem rowOf_kept {w w' : World} {p : Nat} {t : TypeId} {b : Bool} {a a2 : Option Addr} {n c n2 c2 : Nat} {v : Value} {l : List Int} (h : RowOf iV w v l) (D : Rx w p t b (.slice a n c) (.slice a2 n2 c2)) (hg : w.grownBy w' (some p)) : RowOf iV w' v l := by
  obtain ⟨a', c', e, h1, h2, h3⟩ := h
  refine ⟨a', c', e, h1, h2, fun i hi => ?_⟩
  obtain ⟨b', o, e1, e2⟩ := h3 i hi
  refine ⟨b', o, e1, ?_⟩
  by_cases hb : b' = p
  · subst hb
    have D' : w.heap[b']? = some (.cells #[.bool b, .slice a n c, .slice a2 n2 c2] t (0, 0)) := D
    have hk : o + i = 0 ∨ o + i = 1 ∨ o + i = 2 ∨ 3 ≤ o + i := by omega
    rcases hk with hk | hk | hk | hk
    · rw [hk] at e2; simp [World.cell?, D', iV] at e2
    · rw [hk] at e2; simp [World.cell?, D', iV] at e2
    · rw [hk] at e2; simp [World.cell?, D', iV] at e2
    · have : w.cell? ⟨b', o + i, none⟩ = none := by
        simp [World.cell?, D']
        omega
      rw [this] at e2; cases e2
  · have hlt := World.block_lt_of_cell? w _ e2
    exact (World.cell?_of_block (a := ⟨b', o + i, none⟩) (hg.block b' hlt (by intro h; injection h with h; exact hb h))).trans e2


set_option maxRecDepth 100000 in
set_option maxHeartbeats 2000000 in
theorem impl_ratAdd (b0 : Bool) (v0 : Value) (zs0 : List Int) (d0 : Value) (ds0 : List Int) (b1 : Bool) (v1 : Value) (zs1 : List Int) (d1 : Value) (ds1 : List Int) (w : World) (h0 : RowR w v0 zs0 d0 ds0) (h1 : RowR w v1 zs1 d1 ds1) :
    Calls Try.prog 35 #[.agg #[.bool b0, v0, d0], .agg #[.bool b1, v1, d1]] w fun r w' => ∃ v dd, r = .returned (.agg #[.bool (ratAddB b0 zs0 ds0 b1 zs1 ds1), v, dd]) ∧ OwnR w' w.heap.size v (ratAddZ b0 zs0 ds0 b1 zs1 ds1) dd (ratAddD b0 zs0 ds0 b1 zs1 ds1) ∧ Below w.heap.size w w' := by
  cases q0 : ratOk b0 zs0 ds0 with
  | false =>
    have HE := ratAdd_no (b1 := b1) (zs1 := zs1) (ds1 := ds1) (.inl q0)
    rw [HE.1, HE.2.1, HE.2.2]
    have E0 := Lib.hid q0
    clear HE q0
    have H0 := Lib.hid h0
    have H1 := Lib.hid h1
    obtain ⟨⟨a0, c0, rfl, z1, z2, z3⟩, ⟨e0, f0, rfl, z4, z5, z6⟩⟩ := h0
    clear z1 z2 z3 z4 z5 z6
    obtain ⟨⟨a1, c1, rfl, z1, z2, z3⟩, ⟨e1, f1, rfl, z4, z5, z6⟩⟩ := h1
    clear z1 z2 z3 z4 z5 z6
    obtain ⟨nx, hnx⟩ : ∃ n, (zs0).length = n := ⟨_, rfl⟩
    rw [hnx] at H0
    try rw [hnx]
    have Nnx := Lib.hid hnx
    clear hnx
    obtain ⟨nd, hnd⟩ : ∃ n, (ds0).length = n := ⟨_, rfl⟩
    rw [hnd] at H0
    try rw [hnd]
    have Nnd := Lib.hid hnd
    clear hnd
    obtain ⟨ny, hny⟩ : ∃ n, (zs1).length = n := ⟨_, rfl⟩
    rw [hny] at H1
    try rw [hny]
    have Nny := Lib.hid hny
    clear hny
    obtain ⟨ne, hne⟩ : ∃ n, (ds1).length = n := ⟨_, rfl⟩
    rw [hne] at H1
    try rw [hne]
    have Nne := Lib.hid hne
    clear hne
    go_enter Try.func35, Try.ntmps35
    go_wp2_with fail
    obtain ⟨W0, hW0⟩ : ∃ x, x = (((w.alloc (.cells #[.bool b0, .slice a0 nx c0, .slice e0 nd f0] 31)).alloc (.cells #[.bool b1, .slice a1 ny c1, .slice e1 ne f1] 31)).alloc (.cells #[.bool false, .slice none 0 0, .slice none 0 0] 31)) := ⟨_, rfl⟩
    have B := Lib.hid (show Below w.heap.size w W0 by rw [hW0]; exact ((((Below.refl _ _).alloc (Nat.le_refl _) _).alloc (by simp) _).alloc (by simp; omega) _))
    have D_x := Lib.hid (rx_at (show Rx W0 _ 31 (b0) (.slice a0 nx c0) (.slice e0 nd f0) by rw [hW0]; exact ((Rx.new _ _ _ _ _).alloc _).alloc _) (show w.heap.size = _ by simp))
    have D_y := Lib.hid (rx_at (show Rx W0 _ 31 (b1) (.slice a1 ny c1) (.slice e1 ne f1) by rw [hW0]; exact (Rx.new _ _ _ _ _).alloc _) (show (w.heap.size + 1) = _ by simp))
    have D_r := Lib.hid (rx_at (show Rx W0 _ 31 (false) (.slice none 0 0) (.slice none 0 0) by rw [hW0]; exact Rx.new _ _ _ _ _) (show (w.heap.size + 1 + 1) = _ by simp))
    have SZ := Lib.hid (show W0.heap.size = w.heap.size + 1 + 1 + 1 by rw [hW0]; simp)
    rw [← hW0]
    clear hW0
    have BB := Lib.hid (Below.refl W0.heap.size W0)
    refine (impl_start_no b0 _ zs0 _ ds0 _ (H0.out.below B.out) E0.out).mono ?_
    rintro e9 w1 ⟨p, rfl, DP, hp, bw1⟩
    have DP := Lib.hid DP
    have HP := Lib.hid (show W0.heap.size ≤ p from hp)
    clear hp
    replace B := Lib.hid (B.out.trans (bw1.mono B.out.size))
    replace BB := Lib.hid (BB.out.trans (bw1.mono BB.out.size))
    clear bw1
    have c0_x := (D_x.out.below BB.out).c0
    have c1_x := (D_x.out.below BB.out).c1
    have c2_x := (D_x.out.below BB.out).c2
    have c0_y := (D_y.out.below BB.out).c0
    have c1_y := (D_y.out.below BB.out).c1
    have c2_y := (D_y.out.below BB.out).c2
    have hmf : ∀ (fn : Fn) (first cap : Array Value) (w : World), (Instr.makeFunc fn first cap).run Try.prog w = .ok (.func fn first cap) w := fun _ _ _ _ => rfl
    go_wp2_with fail
    clear c0_x c1_x c2_x
    clear c0_y c1_y c2_y
    have hpw := DP.out.lt
    obtain ⟨W2, hW2⟩ : ∃ x, x = w1.alloc (.cells #[.bool b1, .slice a1 ny c1, .slice e1 ne f1] 31) := ⟨_, rfl⟩
    have DL := Lib.hid (show Rx W2 w1.heap.size 31 b1 (.slice a1 ny c1) (.slice e1 ne f1) by rw [hW2]; exact Rx.new _ _ _ _ _)
    replace DP := Lib.hid (show Rx W2 p 85 _ _ _ by rw [hW2]; exact DP.out.alloc _)
    replace BB := Lib.hid (show Below W0.heap.size W0 W2 by rw [hW2]; exact BB.out.alloc BB.out.size _)
    replace B := Lib.hid (show Below w.heap.size w W2 by rw [hW2]; exact B.out.alloc B.out.size _)
    rw [← hW2]
    clear hW2
    refine (impl_fold_zero p w1.heap.size _ b1 a1 ny c1 e1 ne f1 W2 DP.out DL.out (by omega)).mono ?_
    rintro r2 w3 ⟨rfl, bw3⟩
    have D9 := D_r.out.below (BB.out.trans (bw3.mono BB.out.size))
    have B9 := B.out.trans (bw3.mono B.out.size)
    have q0 := D9.c0; have q1 := D9.c1; have q2 := D9.c2; have q3 := D9.f 0; have q4 := D9.f 1; have q5 := D9.f 2
    obtain ⟨e1, e2⟩ := rat_end (b' := false) B9 D9 (OwnR.nil _ W0.heap.size) (by decide) (by have := SZ.out; omega) (by omega) (.slice none 0 0) (.slice none 0 0)
    have D8 := Rx.set3 (b' := false) (v' := .slice none 0 0) (d' := .slice none 0 0) D9
    have hc0 := D8.c0; have hc1 := D8.c1; have hc2 := D8.c2
    go_wp2
    exact bodyPost_ret (v := .agg #[.bool false, .slice none 0 0, .slice none 0 0]) (by simp [results, Try.results35, go_sem, hc0, hc1, hc2]) rfl ⟨_, _, rfl, e1, e2⟩

  | true =>
    cases q1 : ratOk b1 zs1 ds1 with
    | false =>
      have HE := ratAdd_no (b0 := b0) (zs0 := zs0) (ds0 := ds0) (.inr q1)
      rw [HE.1, HE.2.1, HE.2.2]
      have E0 := Lib.hid q0
      have E1 := Lib.hid q1
      have HND0 : Hid (0 < ds0.length) := Lib.hid (by obtain ⟨x, d, _, rfl, _, _, h9, _⟩ := ratOk_parts q0; exact (limI_pos d).2 h9)
      clear HE q0 q1
      have H0 := Lib.hid h0
      have H1 := Lib.hid h1
      obtain ⟨⟨a0, c0, rfl, z1, z2, z3⟩, ⟨e0, f0, rfl, z4, z5, z6⟩⟩ := h0
      clear z1 z2 z3 z4 z5 z6
      obtain ⟨⟨a1, c1, rfl, z1, z2, z3⟩, ⟨e1, f1, rfl, z4, z5, z6⟩⟩ := h1
      clear z1 z2 z3 z4 z5 z6
      obtain ⟨nx, hnx⟩ : ∃ n, (zs0).length = n := ⟨_, rfl⟩
      rw [hnx] at H0
      try rw [hnx]
      have Nnx := Lib.hid hnx
      clear hnx
      obtain ⟨nd, hnd⟩ : ∃ n, (ds0).length = n := ⟨_, rfl⟩
      rw [hnd] at H0
      try rw [hnd]
      have Nnd := Lib.hid hnd
      have HND := Lib.hid (show 0 < nd by rw [← hnd]; exact HND0.out)
      clear hnd
      obtain ⟨ny, hny⟩ : ∃ n, (zs1).length = n := ⟨_, rfl⟩
      rw [hny] at H1
      try rw [hny]
      have Nny := Lib.hid hny
      clear hny
      obtain ⟨ne, hne⟩ : ∃ n, (ds1).length = n := ⟨_, rfl⟩
      rw [hne] at H1
      try rw [hne]
      have Nne := Lib.hid hne
      clear hne
      go_enter Try.func35, Try.ntmps35
      go_wp2_with fail
      obtain ⟨W0, hW0⟩ : ∃ x, x = (((w.alloc (.cells #[.bool b0, .slice a0 nx c0, .slice e0 nd f0] 31)).alloc (.cells #[.bool b1, .slice a1 ny c1, .slice e1 ne f1] 31)).alloc (.cells #[.bool false, .slice none 0 0, .slice none 0 0] 31)) := ⟨_, rfl⟩
      have B := Lib.hid (show Below w.heap.size w W0 by rw [hW0]; exact ((((Below.refl _ _).alloc (Nat.le_refl _) _).alloc (by simp) _).alloc (by simp; omega) _))
      have D_x := Lib.hid (rx_at (show Rx W0 _ 31 (b0) (.slice a0 nx c0) (.slice e0 nd f0) by rw [hW0]; exact ((Rx.new _ _ _ _ _).alloc _).alloc _) (show w.heap.size = _ by simp))
      have D_y := Lib.hid (rx_at (show Rx W0 _ 31 (b1) (.slice a1 ny c1) (.slice e1 ne f1) by rw [hW0]; exact (Rx.new _ _ _ _ _).alloc _) (show (w.heap.size + 1) = _ by simp))
      have D_r := Lib.hid (rx_at (show Rx W0 _ 31 (false) (.slice none 0 0) (.slice none 0 0) by rw [hW0]; exact Rx.new _ _ _ _ _) (show (w.heap.size + 1 + 1) = _ by simp))
      have SZ := Lib.hid (show W0.heap.size = w.heap.size + 1 + 1 + 1 by rw [hW0]; simp)
      rw [← hW0]
      clear hW0
      have BB := Lib.hid (Below.refl W0.heap.size W0)
      refine (impl_start_yes b0 _ zs0 _ ds0 _ (H0.out.below B.out) E0.out).mono ?_
      rintro e9 w1 ⟨p, rfl, DP, hp, bw1⟩
      have DP := Lib.hid DP
      have HP := Lib.hid (show W0.heap.size ≤ p from hp)
      clear hp
      replace B := Lib.hid (B.out.trans (bw1.mono B.out.size))
      replace BB := Lib.hid (BB.out.trans (bw1.mono BB.out.size))
      clear bw1
      have c0_x := (D_x.out.below BB.out).c0
      have c1_x := (D_x.out.below BB.out).c1
      have c2_x := (D_x.out.below BB.out).c2
      have c0_y := (D_y.out.below BB.out).c0
      have c1_y := (D_y.out.below BB.out).c1
      have c2_y := (D_y.out.below BB.out).c2
      have hmf : ∀ (fn : Fn) (first cap : Array Value) (w : World), (Instr.makeFunc fn first cap).run Try.prog w = .ok (.func fn first cap) w := fun _ _ _ _ => rfl
      go_wp2_with fail
      clear c0_x c1_x c2_x
      clear c0_y c1_y c2_y
      have hpw := DP.out.lt
      obtain ⟨W2, hW2⟩ : ∃ x, x = w1.alloc (.cells #[.bool b1, .slice a1 ny c1, .slice e1 ne f1] 31) := ⟨_, rfl⟩
      have DL := Lib.hid (show Rx W2 w1.heap.size 31 b1 (.slice a1 ny c1) (.slice e1 ne f1) by rw [hW2]; exact Rx.new _ _ _ _ _)
      replace DP := Lib.hid (show Rx W2 p 85 _ _ _ by rw [hW2]; exact DP.out.alloc _)
      replace BB := Lib.hid (show Below W0.heap.size W0 W2 by rw [hW2]; exact BB.out.alloc BB.out.size _)
      replace B := Lib.hid (show Below w.heap.size w W2 by rw [hW2]; exact B.out.alloc B.out.size _)
      rw [← hW2]
      clear hW2
      refine (impl_fold_bad p w1.heap.size _ b0 a0 nx c0 e0 nd f0 b1 a1 ny c1 e1 ne f1 zs1 ds1 W2 DP.out DL.out (by omega) (H1.out.below B.out) E1.out HND.out).mono ?_
      rintro r2 w3 ⟨rfl, bw3⟩
      have D9 := D_r.out.below (BB.out.trans (bw3.mono BB.out.size))
      have B9 := B.out.trans (bw3.mono B.out.size)
      have q0 := D9.c0; have q1 := D9.c1; have q2 := D9.c2; have q3 := D9.f 0; have q4 := D9.f 1; have q5 := D9.f 2
      obtain ⟨e1, e2⟩ := rat_end (b' := false) B9 D9 (OwnR.nil _ W0.heap.size) (by decide) (by have := SZ.out; omega) (by omega) (.slice none 0 0) (.slice none 0 0)
      have D8 := Rx.set3 (b' := false) (v' := .slice none 0 0) (d' := .slice none 0 0) D9
      have hc0 := D8.c0; have hc1 := D8.c1; have hc2 := D8.c2
      go_wp2
      exact bodyPost_ret (v := .agg #[.bool false, .slice none 0 0, .slice none 0 0]) (by simp [results, Try.results35, go_sem, hc0, hc1, hc2]) rfl ⟨_, _, rfl, e1, e2⟩

    | true =>
      obtain ⟨x, d, rfl, rfl, hx, hd, hd0, g0, n0⟩ := ratOk_parts q0
      obtain ⟨y, e, rfl, rfl, hy, he, he0, g1, n1⟩ := ratOk_parts q1
      have HE := ratAdd_yes q0 q1
      rw [HE.1, HE.2.1, HE.2.2]
      have E0 := Lib.hid q0
      have E1 := Lib.hid q1
      have HND0 : Hid (0 < (limI d).length) := Lib.hid ((limI_pos d).2 hd0)
      have CH := Lib.hid (And.intro hx (And.intro hd (And.intro hy (And.intro he (And.intro hd0 (And.intro he0 (And.intro g0 (And.intro g1 (And.intro n0 n1)))))))))
      clear HE q0 q1 hx hd hy he hd0 he0 g0 g1 n0 n1
      obtain ⟨SS, hSS⟩ : ∃ s, mkB (sgAddB b0 (x * e) b1 (y * d)) (lowX (sgAddN b0 (x * e) b1 (y * d)) (d * e)) (lowD (sgAddN b0 (x * e) b1 (y * d)) (d * e)) = s := ⟨_, rfl⟩
      obtain ⟨ZZ, hZZ⟩ : ∃ s, mkZ (lowX (sgAddN b0 (x * e) b1 (y * d)) (d * e)) (lowD (sgAddN b0 (x * e) b1 (y * d)) (d * e)) = s := ⟨_, rfl⟩
      obtain ⟨DD, hDD⟩ : ∃ s, mkD (lowX (sgAddN b0 (x * e) b1 (y * d)) (d * e)) (lowD (sgAddN b0 (x * e) b1 (y * d)) (d * e)) = s := ⟨_, rfl⟩
      rw [hSS, hZZ, hDD]
      have HQ := Lib.hid (And.intro hSS (And.intro hZZ hDD))
      clear hSS hZZ hDD
      have H0 := Lib.hid h0
      have H1 := Lib.hid h1
      obtain ⟨⟨a0, c0, rfl, z1, z2, z3⟩, ⟨e0, f0, rfl, z4, z5, z6⟩⟩ := h0
      clear z1 z2 z3 z4 z5 z6
      obtain ⟨⟨a1, c1, rfl, z1, z2, z3⟩, ⟨e1, f1, rfl, z4, z5, z6⟩⟩ := h1
      clear z1 z2 z3 z4 z5 z6
      obtain ⟨nx, hnx⟩ : ∃ n, ((limI x)).length = n := ⟨_, rfl⟩
      rw [hnx] at H0
      try rw [hnx]
      have Nnx := Lib.hid hnx
      clear hnx
      obtain ⟨nd, hnd⟩ : ∃ n, ((limI d)).length = n := ⟨_, rfl⟩
      rw [hnd] at H0
      try rw [hnd]
      have Nnd := Lib.hid hnd
      have HND := Lib.hid (show 0 < nd by rw [← hnd]; exact HND0.out)
      clear hnd
      obtain ⟨ny, hny⟩ : ∃ n, ((limI y)).length = n := ⟨_, rfl⟩
      rw [hny] at H1
      try rw [hny]
      have Nny := Lib.hid hny
      clear hny
      obtain ⟨ne, hne⟩ : ∃ n, ((limI e)).length = n := ⟨_, rfl⟩
      rw [hne] at H1
      try rw [hne]
      have Nne := Lib.hid hne
      clear hne
      go_enter Try.func35, Try.ntmps35
      go_wp2_with fail
      obtain ⟨W0, hW0⟩ : ∃ x, x = (((w.alloc (.cells #[.bool b0, .slice a0 nx c0, .slice e0 nd f0] 31)).alloc (.cells #[.bool b1, .slice a1 ny c1, .slice e1 ne f1] 31)).alloc (.cells #[.bool false, .slice none 0 0, .slice none 0 0] 31)) := ⟨_, rfl⟩
      have B := Lib.hid (show Below w.heap.size w W0 by rw [hW0]; exact ((((Below.refl _ _).alloc (Nat.le_refl _) _).alloc (by simp) _).alloc (by simp; omega) _))
      have D_x := Lib.hid (rx_at (show Rx W0 _ 31 (b0) (.slice a0 nx c0) (.slice e0 nd f0) by rw [hW0]; exact ((Rx.new _ _ _ _ _).alloc _).alloc _) (show w.heap.size = _ by simp))
      have D_y := Lib.hid (rx_at (show Rx W0 _ 31 (b1) (.slice a1 ny c1) (.slice e1 ne f1) by rw [hW0]; exact (Rx.new _ _ _ _ _).alloc _) (show (w.heap.size + 1) = _ by simp))
      have D_r := Lib.hid (rx_at (show Rx W0 _ 31 (false) (.slice none 0 0) (.slice none 0 0) by rw [hW0]; exact Rx.new _ _ _ _ _) (show (w.heap.size + 1 + 1) = _ by simp))
      have SZ := Lib.hid (show W0.heap.size = w.heap.size + 1 + 1 + 1 by rw [hW0]; simp)
      rw [← hW0]
      clear hW0
      have BB := Lib.hid (Below.refl W0.heap.size W0)
      refine (impl_start_yes b0 _ (limI x) _ (limI d) _ (H0.out.below B.out) E0.out).mono ?_
      rintro e9 w1 ⟨p, rfl, DP, hp, bw1⟩
      have DP := Lib.hid DP
      have HP := Lib.hid (show W0.heap.size ≤ p from hp)
      clear hp
      replace B := Lib.hid (B.out.trans (bw1.mono B.out.size))
      replace BB := Lib.hid (BB.out.trans (bw1.mono BB.out.size))
      clear bw1
      have c0_x := (D_x.out.below BB.out).c0
      have c1_x := (D_x.out.below BB.out).c1
      have c2_x := (D_x.out.below BB.out).c2
      have c0_y := (D_y.out.below BB.out).c0
      have c1_y := (D_y.out.below BB.out).c1
      have c2_y := (D_y.out.below BB.out).c2
      have hmf : ∀ (fn : Fn) (first cap : Array Value) (w : World), (Instr.makeFunc fn first cap).run Try.prog w = .ok (.func fn first cap) w := fun _ _ _ _ => rfl
      go_wp2_with fail
      clear c0_x c1_x c2_x
      clear c0_y c1_y c2_y
      have hpw := DP.out.lt
      obtain ⟨W2, hW2⟩ : ∃ x, x = w1.alloc (.cells #[.bool b1, .slice a1 ny c1, .slice e1 ne f1] 31) := ⟨_, rfl⟩
      have DL := Lib.hid (show Rx W2 w1.heap.size 31 b1 (.slice a1 ny c1) (.slice e1 ne f1) by rw [hW2]; exact Rx.new _ _ _ _ _)
      replace DP := Lib.hid (show Rx W2 p 85 _ _ _ by rw [hW2]; exact DP.out.alloc _)
      replace BB := Lib.hid (show Below W0.heap.size W0 W2 by rw [hW2]; exact BB.out.alloc BB.out.size _)
      replace B := Lib.hid (show Below w.heap.size w W2 by rw [hW2]; exact B.out.alloc B.out.size _)
      rw [← hW2]
      clear hW2
      refine (impl_foldAdd p w1.heap.size (fun W b v dd => b = mkB (sgAddB b0 (x * e) b1 (y * d)) (lowX (sgAddN b0 (x * e) b1 (y * d)) (d * e)) (lowD (sgAddN b0 (x * e) b1 (y * d)) (d * e)) ∧ OwnR W W2.heap.size v (mkZ (lowX (sgAddN b0 (x * e) b1 (y * d)) (d * e)) (lowD (sgAddN b0 (x * e) b1 (y * d)) (d * e))) dd (mkD (lowX (sgAddN b0 (x * e) b1 (y * d)) (d * e)) (lowD (sgAddN b0 (x * e) b1 (y * d)) (d * e)))) b0 a0 nx c0 e0 nd f0 b1 a1 ny c1 e1 ne f1 (limI y) (limI e) W2 DP.out DL.out (by omega) (H1.out.below B.out) E1.out HND.out (fun W hW => ?_)).mono ?_
      · refine (impl_totAdd p b0 _ x _ d b1 _ y _ e W (DP.out.below hW) (H0.out.below (B.out.trans (hW.mono B.out.size))) (H1.out.below (B.out.trans (hW.mono B.out.size))) CH.out.1 CH.out.2.1 CH.out.2.2.1 CH.out.2.2.2.1 CH.out.2.2.2.2.1 CH.out.2.2.2.2.2.1 CH.out.2.2.2.2.2.2.1 CH.out.2.2.2.2.2.2.2.1 CH.out.2.2.2.2.2.2.2.2.1 CH.out.2.2.2.2.2.2.2.2.2).mono ?_
        rintro r5 w5 ⟨hq5, ⟨v5, d5, hD5, ho5⟩, hg5⟩
        obtain ⟨a5, c5, e5, f5, rfl, rfl⟩ := ho5.slices
        exact ⟨hq5, ⟨_, _, _, _, _, _, _, hD5, rfl, ho5.base hW.size⟩, hg5⟩
      rintro r2 w3 ⟨b9, v9, d9, rfl, ⟨w8, q8, b8, v8, d8, ⟨rfl, o8⟩, D8, hq8, rfl⟩, g3⟩
      obtain ⟨a9, c9, e9, f9, rfl, rfl⟩ := o8.slices
      have o9 := o8.set3 (b' := mkB (sgAddB b0 (x * e) b1 (y * d)) (lowX (sgAddN b0 (x * e) b1 (y * d)) (d * e)) (lowD (sgAddN b0 (x * e) b1 (y * d)) (d * e))) D8 (by decide) (.slice a9 (mkZ (lowX (sgAddN b0 (x * e) b1 (y * d)) (d * e)) (lowD (sgAddN b0 (x * e) b1 (y * d)) (d * e))).length c9) (.slice e9 (mkD (lowX (sgAddN b0 (x * e) b1 (y * d)) (d * e)) (lowD (sgAddN b0 (x * e) b1 (y * d)) (d * e))).length f9)
      have D9 := (D_r.out.below BB.out).kept g3 (by intro h; injection h with h; have := HP.out; have := SZ.out; omega)
      have B9 := B.out.grown g3 B.out.size (fun k hk => by injection hk with hk; have := HP.out; have := SZ.out; omega)
      obtain ⟨w3, hw3⟩ : ∃ X9, X9 = (((w8.setCell ⟨q8, 0, none⟩ (.bool (mkB (sgAddB b0 (x * e) b1 (y * d)) (lowX (sgAddN b0 (x * e) b1 (y * d)) (d * e)) (lowD (sgAddN b0 (x * e) b1 (y * d)) (d * e))))).setCell ⟨q8, 1, none⟩ (.slice a9 (mkZ (lowX (sgAddN b0 (x * e) b1 (y * d)) (d * e)) (lowD (sgAddN b0 (x * e) b1 (y * d)) (d * e))).length c9)).setCell ⟨q8, 2, none⟩ (.slice e9 (mkD (lowX (sgAddN b0 (x * e) b1 (y * d)) (d * e)) (lowD (sgAddN b0 (x * e) b1 (y * d)) (d * e))).length f9)) := ⟨_, rfl⟩
      rw [← hw3] at o9 D9 B9 ⊢
      clear hw3 g3 D8 o8
      rw [HQ.out.2.1, HQ.out.2.2] at o9
      try rw [HQ.out.1] at o9
      rw [HQ.out.1, HQ.out.2.1, HQ.out.2.2]
      have q0 := D9.c0; have q1 := D9.c1; have q2 := D9.c2; have q3 := D9.f 0; have q4 := D9.f 1; have q5 := D9.f 2
      obtain ⟨e1, e2⟩ := rat_end (b' := SS) B9 D9 (o9.base (by have := BB.out.size; omega)) (by decide) (by have := SZ.out; show w.heap.size ≤ W0.heap.size; omega) (by omega) (.slice a9 ZZ.length c9) (.slice e9 DD.length f9)
      have D8 := Rx.set3 (b' := SS) (v' := .slice a9 ZZ.length c9) (d' := .slice e9 DD.length f9) D9
      have hc0 := D8.c0; have hc1 := D8.c1; have hc2 := D8.c2
      go_wp2
      exact bodyPost_ret (v := .agg #[.bool SS, .slice a9 ZZ.length c9, .slice e9 DD.length f9]) (by simp [results, Try.results35, go_sem, hc0, hc1, hc2]) rfl ⟨_, _, rfl, e1, e2⟩


set_option maxRecDepth 100000 in
set_option maxHeartbeats 2000000 in
theorem impl_ratSub (b0 : Bool) (v0 : Value) (zs0 : List Int) (d0 : Value) (ds0 : List Int) (b1 : Bool) (v1 : Value) (zs1 : List Int) (d1 : Value) (ds1 : List Int) (w : World) (h0 : RowR w v0 zs0 d0 ds0) (h1 : RowR w v1 zs1 d1 ds1) :
    Calls Try.prog 39 #[.agg #[.bool b0, v0, d0], .agg #[.bool b1, v1, d1]] w fun r w' => ∃ v dd, r = .returned (.agg #[.bool (ratSubB b0 zs0 ds0 b1 zs1 ds1), v, dd]) ∧ OwnR w' w.heap.size v (ratSubZ b0 zs0 ds0 b1 zs1 ds1) dd (ratSubD b0 zs0 ds0 b1 zs1 ds1) ∧ Below w.heap.size w w' := by
  cases q0 : ratOk b0 zs0 ds0 with
  | false =>
    have HE := ratSub_no (b1 := b1) (zs1 := zs1) (ds1 := ds1) (.inl q0)
    rw [HE.1, HE.2.1, HE.2.2]
    have E0 := Lib.hid q0
    clear HE q0
    have H0 := Lib.hid h0
    have H1 := Lib.hid h1
    obtain ⟨⟨a0, c0, rfl, z1, z2, z3⟩, ⟨e0, f0, rfl, z4, z5, z6⟩⟩ := h0
    clear z1 z2 z3 z4 z5 z6
    obtain ⟨⟨a1, c1, rfl, z1, z2, z3⟩, ⟨e1, f1, rfl, z4, z5, z6⟩⟩ := h1
    clear z1 z2 z3 z4 z5 z6
    obtain ⟨nx, hnx⟩ : ∃ n, (zs0).length = n := ⟨_, rfl⟩
    rw [hnx] at H0
    try rw [hnx]
    have Nnx := Lib.hid hnx
    clear hnx
    obtain ⟨nd, hnd⟩ : ∃ n, (ds0).length = n := ⟨_, rfl⟩
    rw [hnd] at H0
    try rw [hnd]
    have Nnd := Lib.hid hnd
    clear hnd
    obtain ⟨ny, hny⟩ : ∃ n, (zs1).length = n := ⟨_, rfl⟩
    rw [hny] at H1
    try rw [hny]
    have Nny := Lib.hid hny
    clear hny
    obtain ⟨ne, hne⟩ : ∃ n, (ds1).length = n := ⟨_, rfl⟩
    rw [hne] at H1
    try rw [hne]
    have Nne := Lib.hid hne
    clear hne
    go_enter Try.func39, Try.ntmps39
    go_wp2_with fail
    obtain ⟨W0, hW0⟩ : ∃ x, x = (((w.alloc (.cells #[.bool b0, .slice a0 nx c0, .slice e0 nd f0] 31)).alloc (.cells #[.bool b1, .slice a1 ny c1, .slice e1 ne f1] 31)).alloc (.cells #[.bool false, .slice none 0 0, .slice none 0 0] 31)) := ⟨_, rfl⟩
    have B := Lib.hid (show Below w.heap.size w W0 by rw [hW0]; exact ((((Below.refl _ _).alloc (Nat.le_refl _) _).alloc (by simp) _).alloc (by simp; omega) _))
    have D_x := Lib.hid (rx_at (show Rx W0 _ 31 (b0) (.slice a0 nx c0) (.slice e0 nd f0) by rw [hW0]; exact ((Rx.new _ _ _ _ _).alloc _).alloc _) (show w.heap.size = _ by simp))
    have D_y := Lib.hid (rx_at (show Rx W0 _ 31 (b1) (.slice a1 ny c1) (.slice e1 ne f1) by rw [hW0]; exact (Rx.new _ _ _ _ _).alloc _) (show (w.heap.size + 1) = _ by simp))
    have D_r := Lib.hid (rx_at (show Rx W0 _ 31 (false) (.slice none 0 0) (.slice none 0 0) by rw [hW0]; exact Rx.new _ _ _ _ _) (show (w.heap.size + 1 + 1) = _ by simp))
    have SZ := Lib.hid (show W0.heap.size = w.heap.size + 1 + 1 + 1 by rw [hW0]; simp)
    rw [← hW0]
    clear hW0
    have BB := Lib.hid (Below.refl W0.heap.size W0)
    refine (impl_start_no b0 _ zs0 _ ds0 _ (H0.out.below B.out) E0.out).mono ?_
    rintro e9 w1 ⟨p, rfl, DP, hp, bw1⟩
    have DP := Lib.hid DP
    have HP := Lib.hid (show W0.heap.size ≤ p from hp)
    clear hp
    replace B := Lib.hid (B.out.trans (bw1.mono B.out.size))
    replace BB := Lib.hid (BB.out.trans (bw1.mono BB.out.size))
    clear bw1
    have c0_x := (D_x.out.below BB.out).c0
    have c1_x := (D_x.out.below BB.out).c1
    have c2_x := (D_x.out.below BB.out).c2
    have c0_y := (D_y.out.below BB.out).c0
    have c1_y := (D_y.out.below BB.out).c1
    have c2_y := (D_y.out.below BB.out).c2
    have hmf : ∀ (fn : Fn) (first cap : Array Value) (w : World), (Instr.makeFunc fn first cap).run Try.prog w = .ok (.func fn first cap) w := fun _ _ _ _ => rfl
    go_wp2_with fail
    clear c0_x c1_x c2_x
    clear c0_y c1_y c2_y
    have hpw := DP.out.lt
    obtain ⟨W2, hW2⟩ : ∃ x, x = w1.alloc (.cells #[.bool b1, .slice a1 ny c1, .slice e1 ne f1] 31) := ⟨_, rfl⟩
    have DL := Lib.hid (show Rx W2 w1.heap.size 31 b1 (.slice a1 ny c1) (.slice e1 ne f1) by rw [hW2]; exact Rx.new _ _ _ _ _)
    replace DP := Lib.hid (show Rx W2 p 85 _ _ _ by rw [hW2]; exact DP.out.alloc _)
    replace BB := Lib.hid (show Below W0.heap.size W0 W2 by rw [hW2]; exact BB.out.alloc BB.out.size _)
    replace B := Lib.hid (show Below w.heap.size w W2 by rw [hW2]; exact B.out.alloc B.out.size _)
    rw [← hW2]
    clear hW2
    refine (impl_fold_zero p w1.heap.size _ b1 a1 ny c1 e1 ne f1 W2 DP.out DL.out (by omega)).mono ?_
    rintro r2 w3 ⟨rfl, bw3⟩
    have D9 := D_r.out.below (BB.out.trans (bw3.mono BB.out.size))
    have B9 := B.out.trans (bw3.mono B.out.size)
    have q0 := D9.c0; have q1 := D9.c1; have q2 := D9.c2; have q3 := D9.f 0; have q4 := D9.f 1; have q5 := D9.f 2
    obtain ⟨e1, e2⟩ := rat_end (b' := false) B9 D9 (OwnR.nil _ W0.heap.size) (by decide) (by have := SZ.out; omega) (by omega) (.slice none 0 0) (.slice none 0 0)
    have D8 := Rx.set3 (b' := false) (v' := .slice none 0 0) (d' := .slice none 0 0) D9
    have hc0 := D8.c0; have hc1 := D8.c1; have hc2 := D8.c2
    go_wp2
    exact bodyPost_ret (v := .agg #[.bool false, .slice none 0 0, .slice none 0 0]) (by simp [results, Try.results39, go_sem, hc0, hc1, hc2]) rfl ⟨_, _, rfl, e1, e2⟩

  | true =>
    cases q1 : ratOk b1 zs1 ds1 with
    | false =>
      have HE := ratSub_no (b0 := b0) (zs0 := zs0) (ds0 := ds0) (.inr q1)
      rw [HE.1, HE.2.1, HE.2.2]
      have E0 := Lib.hid q0
      have E1 := Lib.hid q1
      have HND0 : Hid (0 < ds0.length) := Lib.hid (by obtain ⟨x, d, _, rfl, _, _, h9, _⟩ := ratOk_parts q0; exact (limI_pos d).2 h9)
      clear HE q0 q1
      have H0 := Lib.hid h0
      have H1 := Lib.hid h1
      obtain ⟨⟨a0, c0, rfl, z1, z2, z3⟩, ⟨e0, f0, rfl, z4, z5, z6⟩⟩ := h0
      clear z1 z2 z3 z4 z5 z6
      obtain ⟨⟨a1, c1, rfl, z1, z2, z3⟩, ⟨e1, f1, rfl, z4, z5, z6⟩⟩ := h1
      clear z1 z2 z3 z4 z5 z6
      obtain ⟨nx, hnx⟩ : ∃ n, (zs0).length = n := ⟨_, rfl⟩
      rw [hnx] at H0
      try rw [hnx]
      have Nnx := Lib.hid hnx
      clear hnx
      obtain ⟨nd, hnd⟩ : ∃ n, (ds0).length = n := ⟨_, rfl⟩
      rw [hnd] at H0
      try rw [hnd]
      have Nnd := Lib.hid hnd
      have HND := Lib.hid (show 0 < nd by rw [← hnd]; exact HND0.out)
      clear hnd
      obtain ⟨ny, hny⟩ : ∃ n, (zs1).length = n := ⟨_, rfl⟩
      rw [hny] at H1
      try rw [hny]
      have Nny := Lib.hid hny
      clear hny
      obtain ⟨ne, hne⟩ : ∃ n, (ds1).length = n := ⟨_, rfl⟩
      rw [hne] at H1
      try rw [hne]
      have Nne := Lib.hid hne
      clear hne
      go_enter Try.func39, Try.ntmps39
      go_wp2_with fail
      obtain ⟨W0, hW0⟩ : ∃ x, x = (((w.alloc (.cells #[.bool b0, .slice a0 nx c0, .slice e0 nd f0] 31)).alloc (.cells #[.bool b1, .slice a1 ny c1, .slice e1 ne f1] 31)).alloc (.cells #[.bool false, .slice none 0 0, .slice none 0 0] 31)) := ⟨_, rfl⟩
      have B := Lib.hid (show Below w.heap.size w W0 by rw [hW0]; exact ((((Below.refl _ _).alloc (Nat.le_refl _) _).alloc (by simp) _).alloc (by simp; omega) _))
      have D_x := Lib.hid (rx_at (show Rx W0 _ 31 (b0) (.slice a0 nx c0) (.slice e0 nd f0) by rw [hW0]; exact ((Rx.new _ _ _ _ _).alloc _).alloc _) (show w.heap.size = _ by simp))
      have D_y := Lib.hid (rx_at (show Rx W0 _ 31 (b1) (.slice a1 ny c1) (.slice e1 ne f1) by rw [hW0]; exact (Rx.new _ _ _ _ _).alloc _) (show (w.heap.size + 1) = _ by simp))
      have D_r := Lib.hid (rx_at (show Rx W0 _ 31 (false) (.slice none 0 0) (.slice none 0 0) by rw [hW0]; exact Rx.new _ _ _ _ _) (show (w.heap.size + 1 + 1) = _ by simp))
      have SZ := Lib.hid (show W0.heap.size = w.heap.size + 1 + 1 + 1 by rw [hW0]; simp)
      rw [← hW0]
      clear hW0
      have BB := Lib.hid (Below.refl W0.heap.size W0)
      refine (impl_start_yes b0 _ zs0 _ ds0 _ (H0.out.below B.out) E0.out).mono ?_
      rintro e9 w1 ⟨p, rfl, DP, hp, bw1⟩
      have DP := Lib.hid DP
      have HP := Lib.hid (show W0.heap.size ≤ p from hp)
      clear hp
      replace B := Lib.hid (B.out.trans (bw1.mono B.out.size))
      replace BB := Lib.hid (BB.out.trans (bw1.mono BB.out.size))
      clear bw1
      have c0_x := (D_x.out.below BB.out).c0
      have c1_x := (D_x.out.below BB.out).c1
      have c2_x := (D_x.out.below BB.out).c2
      have c0_y := (D_y.out.below BB.out).c0
      have c1_y := (D_y.out.below BB.out).c1
      have c2_y := (D_y.out.below BB.out).c2
      have hmf : ∀ (fn : Fn) (first cap : Array Value) (w : World), (Instr.makeFunc fn first cap).run Try.prog w = .ok (.func fn first cap) w := fun _ _ _ _ => rfl
      go_wp2_with fail
      clear c0_x c1_x c2_x
      clear c0_y c1_y c2_y
      have hpw := DP.out.lt
      obtain ⟨W2, hW2⟩ : ∃ x, x = w1.alloc (.cells #[.bool b1, .slice a1 ny c1, .slice e1 ne f1] 31) := ⟨_, rfl⟩
      have DL := Lib.hid (show Rx W2 w1.heap.size 31 b1 (.slice a1 ny c1) (.slice e1 ne f1) by rw [hW2]; exact Rx.new _ _ _ _ _)
      replace DP := Lib.hid (show Rx W2 p 85 _ _ _ by rw [hW2]; exact DP.out.alloc _)
      replace BB := Lib.hid (show Below W0.heap.size W0 W2 by rw [hW2]; exact BB.out.alloc BB.out.size _)
      replace B := Lib.hid (show Below w.heap.size w W2 by rw [hW2]; exact B.out.alloc B.out.size _)
      rw [← hW2]
      clear hW2
      refine (impl_fold_bad p w1.heap.size _ b0 a0 nx c0 e0 nd f0 b1 a1 ny c1 e1 ne f1 zs1 ds1 W2 DP.out DL.out (by omega) (H1.out.below B.out) E1.out HND.out).mono ?_
      rintro r2 w3 ⟨rfl, bw3⟩
      have D9 := D_r.out.below (BB.out.trans (bw3.mono BB.out.size))
      have B9 := B.out.trans (bw3.mono B.out.size)
      have q0 := D9.c0; have q1 := D9.c1; have q2 := D9.c2; have q3 := D9.f 0; have q4 := D9.f 1; have q5 := D9.f 2
      obtain ⟨e1, e2⟩ := rat_end (b' := false) B9 D9 (OwnR.nil _ W0.heap.size) (by decide) (by have := SZ.out; omega) (by omega) (.slice none 0 0) (.slice none 0 0)
      have D8 := Rx.set3 (b' := false) (v' := .slice none 0 0) (d' := .slice none 0 0) D9
      have hc0 := D8.c0; have hc1 := D8.c1; have hc2 := D8.c2
      go_wp2
      exact bodyPost_ret (v := .agg #[.bool false, .slice none 0 0, .slice none 0 0]) (by simp [results, Try.results39, go_sem, hc0, hc1, hc2]) rfl ⟨_, _, rfl, e1, e2⟩

    | true =>
      obtain ⟨x, d, rfl, rfl, hx, hd, hd0, g0, n0⟩ := ratOk_parts q0
      obtain ⟨y, e, rfl, rfl, hy, he, he0, g1, n1⟩ := ratOk_parts q1
      have HE := ratSub_yes q0 q1
      rw [HE.1, HE.2.1, HE.2.2]
      have E0 := Lib.hid q0
      have E1 := Lib.hid q1
      have HND0 : Hid (0 < (limI d).length) := Lib.hid ((limI_pos d).2 hd0)
      have CH := Lib.hid (And.intro hx (And.intro hd (And.intro hy (And.intro he (And.intro hd0 (And.intro he0 (And.intro g0 (And.intro g1 (And.intro n0 n1)))))))))
      clear HE q0 q1 hx hd hy he hd0 he0 g0 g1 n0 n1
      obtain ⟨SS, hSS⟩ : ∃ s, mkB (sgAddB b0 (x * e) (!b1 && decide (0 < y)) (y * d)) (lowX (sgAddN b0 (x * e) (!b1 && decide (0 < y)) (y * d)) (d * e)) (lowD (sgAddN b0 (x * e) (!b1 && decide (0 < y)) (y * d)) (d * e)) = s := ⟨_, rfl⟩
      obtain ⟨ZZ, hZZ⟩ : ∃ s, mkZ (lowX (sgAddN b0 (x * e) (!b1 && decide (0 < y)) (y * d)) (d * e)) (lowD (sgAddN b0 (x * e) (!b1 && decide (0 < y)) (y * d)) (d * e)) = s := ⟨_, rfl⟩
      obtain ⟨DD, hDD⟩ : ∃ s, mkD (lowX (sgAddN b0 (x * e) (!b1 && decide (0 < y)) (y * d)) (d * e)) (lowD (sgAddN b0 (x * e) (!b1 && decide (0 < y)) (y * d)) (d * e)) = s := ⟨_, rfl⟩
      rw [hSS, hZZ, hDD]
      have HQ := Lib.hid (And.intro hSS (And.intro hZZ hDD))
      clear hSS hZZ hDD
      have H0 := Lib.hid h0
      have H1 := Lib.hid h1
      obtain ⟨⟨a0, c0, rfl, z1, z2, z3⟩, ⟨e0, f0, rfl, z4, z5, z6⟩⟩ := h0
      clear z1 z2 z3 z4 z5 z6
      obtain ⟨⟨a1, c1, rfl, z1, z2, z3⟩, ⟨e1, f1, rfl, z4, z5, z6⟩⟩ := h1
      clear z1 z2 z3 z4 z5 z6
      obtain ⟨nx, hnx⟩ : ∃ n, ((limI x)).length = n := ⟨_, rfl⟩
      rw [hnx] at H0
      try rw [hnx]
      have Nnx := Lib.hid hnx
      clear hnx
      obtain ⟨nd, hnd⟩ : ∃ n, ((limI d)).length = n := ⟨_, rfl⟩
      rw [hnd] at H0
      try rw [hnd]
      have Nnd := Lib.hid hnd
      have HND := Lib.hid (show 0 < nd by rw [← hnd]; exact HND0.out)
      clear hnd
      obtain ⟨ny, hny⟩ : ∃ n, ((limI y)).length = n := ⟨_, rfl⟩
      rw [hny] at H1
      try rw [hny]
      have Nny := Lib.hid hny
      clear hny
      obtain ⟨ne, hne⟩ : ∃ n, ((limI e)).length = n := ⟨_, rfl⟩
      rw [hne] at H1
      try rw [hne]
      have Nne := Lib.hid hne
      clear hne
      go_enter Try.func39, Try.ntmps39
      go_wp2_with fail
      obtain ⟨W0, hW0⟩ : ∃ x, x = (((w.alloc (.cells #[.bool b0, .slice a0 nx c0, .slice e0 nd f0] 31)).alloc (.cells #[.bool b1, .slice a1 ny c1, .slice e1 ne f1] 31)).alloc (.cells #[.bool false, .slice none 0 0, .slice none 0 0] 31)) := ⟨_, rfl⟩
      have B := Lib.hid (show Below w.heap.size w W0 by rw [hW0]; exact ((((Below.refl _ _).alloc (Nat.le_refl _) _).alloc (by simp) _).alloc (by simp; omega) _))
      have D_x := Lib.hid (rx_at (show Rx W0 _ 31 (b0) (.slice a0 nx c0) (.slice e0 nd f0) by rw [hW0]; exact ((Rx.new _ _ _ _ _).alloc _).alloc _) (show w.heap.size = _ by simp))
      have D_y := Lib.hid (rx_at (show Rx W0 _ 31 (b1) (.slice a1 ny c1) (.slice e1 ne f1) by rw [hW0]; exact (Rx.new _ _ _ _ _).alloc _) (show (w.heap.size + 1) = _ by simp))
      have D_r := Lib.hid (rx_at (show Rx W0 _ 31 (false) (.slice none 0 0) (.slice none 0 0) by rw [hW0]; exact Rx.new _ _ _ _ _) (show (w.heap.size + 1 + 1) = _ by simp))
      have SZ := Lib.hid (show W0.heap.size = w.heap.size + 1 + 1 + 1 by rw [hW0]; simp)
      rw [← hW0]
      clear hW0
      have BB := Lib.hid (Below.refl W0.heap.size W0)
      refine (impl_start_yes b0 _ (limI x) _ (limI d) _ (H0.out.below B.out) E0.out).mono ?_
      rintro e9 w1 ⟨p, rfl, DP, hp, bw1⟩
      have DP := Lib.hid DP
      have HP := Lib.hid (show W0.heap.size ≤ p from hp)
      clear hp
      replace B := Lib.hid (B.out.trans (bw1.mono B.out.size))
      replace BB := Lib.hid (BB.out.trans (bw1.mono BB.out.size))
      clear bw1
      have c0_x := (D_x.out.below BB.out).c0
      have c1_x := (D_x.out.below BB.out).c1
      have c2_x := (D_x.out.below BB.out).c2
      have c0_y := (D_y.out.below BB.out).c0
      have c1_y := (D_y.out.below BB.out).c1
      have c2_y := (D_y.out.below BB.out).c2
      have hmf : ∀ (fn : Fn) (first cap : Array Value) (w : World), (Instr.makeFunc fn first cap).run Try.prog w = .ok (.func fn first cap) w := fun _ _ _ _ => rfl
      go_wp2_with fail
      clear c0_x c1_x c2_x
      clear c0_y c1_y c2_y
      have hpw := DP.out.lt
      obtain ⟨W2, hW2⟩ : ∃ x, x = w1.alloc (.cells #[.bool b1, .slice a1 ny c1, .slice e1 ne f1] 31) := ⟨_, rfl⟩
      have DL := Lib.hid (show Rx W2 w1.heap.size 31 b1 (.slice a1 ny c1) (.slice e1 ne f1) by rw [hW2]; exact Rx.new _ _ _ _ _)
      replace DP := Lib.hid (show Rx W2 p 85 _ _ _ by rw [hW2]; exact DP.out.alloc _)
      replace BB := Lib.hid (show Below W0.heap.size W0 W2 by rw [hW2]; exact BB.out.alloc BB.out.size _)
      replace B := Lib.hid (show Below w.heap.size w W2 by rw [hW2]; exact B.out.alloc B.out.size _)
      rw [← hW2]
      clear hW2
      refine (impl_foldSub p w1.heap.size (fun W b v dd => b = mkB (sgAddB b0 (x * e) (!b1 && decide (0 < y)) (y * d)) (lowX (sgAddN b0 (x * e) (!b1 && decide (0 < y)) (y * d)) (d * e)) (lowD (sgAddN b0 (x * e) (!b1 && decide (0 < y)) (y * d)) (d * e)) ∧ OwnR W W2.heap.size v (mkZ (lowX (sgAddN b0 (x * e) (!b1 && decide (0 < y)) (y * d)) (d * e)) (lowD (sgAddN b0 (x * e) (!b1 && decide (0 < y)) (y * d)) (d * e))) dd (mkD (lowX (sgAddN b0 (x * e) (!b1 && decide (0 < y)) (y * d)) (d * e)) (lowD (sgAddN b0 (x * e) (!b1 && decide (0 < y)) (y * d)) (d * e)))) b0 a0 nx c0 e0 nd f0 b1 a1 ny c1 e1 ne f1 (limI y) (limI e) W2 DP.out DL.out (by omega) (H1.out.below B.out) E1.out HND.out (fun W hW => ?_)).mono ?_
      · refine (impl_totSub p b0 _ x _ d b1 _ y _ e W (DP.out.below hW) (H0.out.below (B.out.trans (hW.mono B.out.size))) (H1.out.below (B.out.trans (hW.mono B.out.size))) CH.out.1 CH.out.2.1 CH.out.2.2.1 CH.out.2.2.2.1 CH.out.2.2.2.2.1 CH.out.2.2.2.2.2.1 CH.out.2.2.2.2.2.2.1 CH.out.2.2.2.2.2.2.2.1 CH.out.2.2.2.2.2.2.2.2.1 CH.out.2.2.2.2.2.2.2.2.2).mono ?_
        rintro r5 w5 ⟨hq5, ⟨v5, d5, hD5, ho5⟩, hg5⟩
        obtain ⟨a5, c5, e5, f5, rfl, rfl⟩ := ho5.slices
        exact ⟨hq5, ⟨_, _, _, _, _, _, _, hD5, rfl, ho5.base hW.size⟩, hg5⟩
      rintro r2 w3 ⟨b9, v9, d9, rfl, ⟨w8, q8, b8, v8, d8, ⟨rfl, o8⟩, D8, hq8, rfl⟩, g3⟩
      obtain ⟨a9, c9, e9, f9, rfl, rfl⟩ := o8.slices
      have o9 := o8.set3 (b' := mkB (sgAddB b0 (x * e) (!b1 && decide (0 < y)) (y * d)) (lowX (sgAddN b0 (x * e) (!b1 && decide (0 < y)) (y * d)) (d * e)) (lowD (sgAddN b0 (x * e) (!b1 && decide (0 < y)) (y * d)) (d * e))) D8 (by decide) (.slice a9 (mkZ (lowX (sgAddN b0 (x * e) (!b1 && decide (0 < y)) (y * d)) (d * e)) (lowD (sgAddN b0 (x * e) (!b1 && decide (0 < y)) (y * d)) (d * e))).length c9) (.slice e9 (mkD (lowX (sgAddN b0 (x * e) (!b1 && decide (0 < y)) (y * d)) (d * e)) (lowD (sgAddN b0 (x * e) (!b1 && decide (0 < y)) (y * d)) (d * e))).length f9)
      have D9 := (D_r.out.below BB.out).kept g3 (by intro h; injection h with h; have := HP.out; have := SZ.out; omega)
      have B9 := B.out.grown g3 B.out.size (fun k hk => by injection hk with hk; have := HP.out; have := SZ.out; omega)
      obtain ⟨w3, hw3⟩ : ∃ X9, X9 = (((w8.setCell ⟨q8, 0, none⟩ (.bool (mkB (sgAddB b0 (x * e) (!b1 && decide (0 < y)) (y * d)) (lowX (sgAddN b0 (x * e) (!b1 && decide (0 < y)) (y * d)) (d * e)) (lowD (sgAddN b0 (x * e) (!b1 && decide (0 < y)) (y * d)) (d * e))))).setCell ⟨q8, 1, none⟩ (.slice a9 (mkZ (lowX (sgAddN b0 (x * e) (!b1 && decide (0 < y)) (y * d)) (d * e)) (lowD (sgAddN b0 (x * e) (!b1 && decide (0 < y)) (y * d)) (d * e))).length c9)).setCell ⟨q8, 2, none⟩ (.slice e9 (mkD (lowX (sgAddN b0 (x * e) (!b1 && decide (0 < y)) (y * d)) (d * e)) (lowD (sgAddN b0 (x * e) (!b1 && decide (0 < y)) (y * d)) (d * e))).length f9)) := ⟨_, rfl⟩
      rw [← hw3] at o9 D9 B9 ⊢
      clear hw3 g3 D8 o8
      rw [HQ.out.2.1, HQ.out.2.2] at o9
      try rw [HQ.out.1] at o9
      rw [HQ.out.1, HQ.out.2.1, HQ.out.2.2]
      have q0 := D9.c0; have q1 := D9.c1; have q2 := D9.c2; have q3 := D9.f 0; have q4 := D9.f 1; have q5 := D9.f 2
      obtain ⟨e1, e2⟩ := rat_end (b' := SS) B9 D9 (o9.base (by have := BB.out.size; omega)) (by decide) (by have := SZ.out; show w.heap.size ≤ W0.heap.size; omega) (by omega) (.slice a9 ZZ.length c9) (.slice e9 DD.length f9)
      have D8 := Rx.set3 (b' := SS) (v' := .slice a9 ZZ.length c9) (d' := .slice e9 DD.length f9) D9
      have hc0 := D8.c0; have hc1 := D8.c1; have hc2 := D8.c2
      go_wp2
      exact bodyPost_ret (v := .agg #[.bool SS, .slice a9 ZZ.length c9, .slice e9 DD.length f9]) (by simp [results, Try.results39, go_sem, hc0, hc1, hc2]) rfl ⟨_, _, rfl, e1, e2⟩


set_option maxRecDepth 100000 in
set_option maxHeartbeats 2000000 in
theorem impl_ratMul (b0 : Bool) (v0 : Value) (zs0 : List Int) (d0 : Value) (ds0 : List Int) (b1 : Bool) (v1 : Value) (zs1 : List Int) (d1 : Value) (ds1 : List Int) (w : World) (h0 : RowR w v0 zs0 d0 ds0) (h1 : RowR w v1 zs1 d1 ds1) :
    Calls Try.prog 41 #[.agg #[.bool b0, v0, d0], .agg #[.bool b1, v1, d1]] w fun r w' => ∃ v dd, r = .returned (.agg #[.bool (ratMulB b0 zs0 ds0 b1 zs1 ds1), v, dd]) ∧ OwnR w' w.heap.size v (ratMulZ b0 zs0 ds0 b1 zs1 ds1) dd (ratMulD b0 zs0 ds0 b1 zs1 ds1) ∧ Below w.heap.size w w' := by
  cases q0 : ratOk b0 zs0 ds0 with
  | false =>
    have HE := ratMul_no (b1 := b1) (zs1 := zs1) (ds1 := ds1) (.inl q0)
    rw [HE.1, HE.2.1, HE.2.2]
    have E0 := Lib.hid q0
    clear HE q0
    have H0 := Lib.hid h0
    have H1 := Lib.hid h1
    obtain ⟨⟨a0, c0, rfl, z1, z2, z3⟩, ⟨e0, f0, rfl, z4, z5, z6⟩⟩ := h0
    clear z1 z2 z3 z4 z5 z6
    obtain ⟨⟨a1, c1, rfl, z1, z2, z3⟩, ⟨e1, f1, rfl, z4, z5, z6⟩⟩ := h1
    clear z1 z2 z3 z4 z5 z6
    obtain ⟨nx, hnx⟩ : ∃ n, (zs0).length = n := ⟨_, rfl⟩
    rw [hnx] at H0
    try rw [hnx]
    have Nnx := Lib.hid hnx
    clear hnx
    obtain ⟨nd, hnd⟩ : ∃ n, (ds0).length = n := ⟨_, rfl⟩
    rw [hnd] at H0
    try rw [hnd]
    have Nnd := Lib.hid hnd
    clear hnd
    obtain ⟨ny, hny⟩ : ∃ n, (zs1).length = n := ⟨_, rfl⟩
    rw [hny] at H1
    try rw [hny]
    have Nny := Lib.hid hny
    clear hny
    obtain ⟨ne, hne⟩ : ∃ n, (ds1).length = n := ⟨_, rfl⟩
    rw [hne] at H1
    try rw [hne]
    have Nne := Lib.hid hne
    clear hne
    go_enter Try.func41, Try.ntmps41
    go_wp2_with fail
    obtain ⟨W0, hW0⟩ : ∃ x, x = (((w.alloc (.cells #[.bool b0, .slice a0 nx c0, .slice e0 nd f0] 31)).alloc (.cells #[.bool b1, .slice a1 ny c1, .slice e1 ne f1] 31)).alloc (.cells #[.bool false, .slice none 0 0, .slice none 0 0] 31)) := ⟨_, rfl⟩
    have B := Lib.hid (show Below w.heap.size w W0 by rw [hW0]; exact ((((Below.refl _ _).alloc (Nat.le_refl _) _).alloc (by simp) _).alloc (by simp; omega) _))
    have D_x := Lib.hid (rx_at (show Rx W0 _ 31 (b0) (.slice a0 nx c0) (.slice e0 nd f0) by rw [hW0]; exact ((Rx.new _ _ _ _ _).alloc _).alloc _) (show w.heap.size = _ by simp))
    have D_y := Lib.hid (rx_at (show Rx W0 _ 31 (b1) (.slice a1 ny c1) (.slice e1 ne f1) by rw [hW0]; exact (Rx.new _ _ _ _ _).alloc _) (show (w.heap.size + 1) = _ by simp))
    have D_r := Lib.hid (rx_at (show Rx W0 _ 31 (false) (.slice none 0 0) (.slice none 0 0) by rw [hW0]; exact Rx.new _ _ _ _ _) (show (w.heap.size + 1 + 1) = _ by simp))
    have SZ := Lib.hid (show W0.heap.size = w.heap.size + 1 + 1 + 1 by rw [hW0]; simp)
    rw [← hW0]
    clear hW0
    have BB := Lib.hid (Below.refl W0.heap.size W0)
    refine (impl_start_no b0 _ zs0 _ ds0 _ (H0.out.below B.out) E0.out).mono ?_
    rintro e9 w1 ⟨p, rfl, DP, hp, bw1⟩
    have DP := Lib.hid DP
    have HP := Lib.hid (show W0.heap.size ≤ p from hp)
    clear hp
    replace B := Lib.hid (B.out.trans (bw1.mono B.out.size))
    replace BB := Lib.hid (BB.out.trans (bw1.mono BB.out.size))
    clear bw1
    have c0_x := (D_x.out.below BB.out).c0
    have c1_x := (D_x.out.below BB.out).c1
    have c2_x := (D_x.out.below BB.out).c2
    have c0_y := (D_y.out.below BB.out).c0
    have c1_y := (D_y.out.below BB.out).c1
    have c2_y := (D_y.out.below BB.out).c2
    have hmf : ∀ (fn : Fn) (first cap : Array Value) (w : World), (Instr.makeFunc fn first cap).run Try.prog w = .ok (.func fn first cap) w := fun _ _ _ _ => rfl
    go_wp2_with fail
    clear c0_x c1_x c2_x
    clear c0_y c1_y c2_y
    have hpw := DP.out.lt
    obtain ⟨W2, hW2⟩ : ∃ x, x = w1.alloc (.cells #[.bool b1, .slice a1 ny c1, .slice e1 ne f1] 31) := ⟨_, rfl⟩
    have DL := Lib.hid (show Rx W2 w1.heap.size 31 b1 (.slice a1 ny c1) (.slice e1 ne f1) by rw [hW2]; exact Rx.new _ _ _ _ _)
    replace DP := Lib.hid (show Rx W2 p 85 _ _ _ by rw [hW2]; exact DP.out.alloc _)
    replace BB := Lib.hid (show Below W0.heap.size W0 W2 by rw [hW2]; exact BB.out.alloc BB.out.size _)
    replace B := Lib.hid (show Below w.heap.size w W2 by rw [hW2]; exact B.out.alloc B.out.size _)
    rw [← hW2]
    clear hW2
    refine (impl_fold_zero p w1.heap.size _ b1 a1 ny c1 e1 ne f1 W2 DP.out DL.out (by omega)).mono ?_
    rintro r2 w3 ⟨rfl, bw3⟩
    have D9 := D_r.out.below (BB.out.trans (bw3.mono BB.out.size))
    have B9 := B.out.trans (bw3.mono B.out.size)
    have q0 := D9.c0; have q1 := D9.c1; have q2 := D9.c2; have q3 := D9.f 0; have q4 := D9.f 1; have q5 := D9.f 2
    obtain ⟨e1, e2⟩ := rat_end (b' := false) B9 D9 (OwnR.nil _ W0.heap.size) (by decide) (by have := SZ.out; omega) (by omega) (.slice none 0 0) (.slice none 0 0)
    have D8 := Rx.set3 (b' := false) (v' := .slice none 0 0) (d' := .slice none 0 0) D9
    have hc0 := D8.c0; have hc1 := D8.c1; have hc2 := D8.c2
    go_wp2
    exact bodyPost_ret (v := .agg #[.bool false, .slice none 0 0, .slice none 0 0]) (by simp [results, Try.results41, go_sem, hc0, hc1, hc2]) rfl ⟨_, _, rfl, e1, e2⟩

  | true =>
    cases q1 : ratOk b1 zs1 ds1 with
    | false =>
      have HE := ratMul_no (b0 := b0) (zs0 := zs0) (ds0 := ds0) (.inr q1)
      rw [HE.1, HE.2.1, HE.2.2]
      have E0 := Lib.hid q0
      have E1 := Lib.hid q1
      have HND0 : Hid (0 < ds0.length) := Lib.hid (by obtain ⟨x, d, _, rfl, _, _, h9, _⟩ := ratOk_parts q0; exact (limI_pos d).2 h9)
      clear HE q0 q1
      have H0 := Lib.hid h0
      have H1 := Lib.hid h1
      obtain ⟨⟨a0, c0, rfl, z1, z2, z3⟩, ⟨e0, f0, rfl, z4, z5, z6⟩⟩ := h0
      clear z1 z2 z3 z4 z5 z6
      obtain ⟨⟨a1, c1, rfl, z1, z2, z3⟩, ⟨e1, f1, rfl, z4, z5, z6⟩⟩ := h1
      clear z1 z2 z3 z4 z5 z6
      obtain ⟨nx, hnx⟩ : ∃ n, (zs0).length = n := ⟨_, rfl⟩
      rw [hnx] at H0
      try rw [hnx]
      have Nnx := Lib.hid hnx
      clear hnx
      obtain ⟨nd, hnd⟩ : ∃ n, (ds0).length = n := ⟨_, rfl⟩
      rw [hnd] at H0
      try rw [hnd]
      have Nnd := Lib.hid hnd
      have HND := Lib.hid (show 0 < nd by rw [← hnd]; exact HND0.out)
      clear hnd
      obtain ⟨ny, hny⟩ : ∃ n, (zs1).length = n := ⟨_, rfl⟩
      rw [hny] at H1
      try rw [hny]
      have Nny := Lib.hid hny
      clear hny
      obtain ⟨ne, hne⟩ : ∃ n, (ds1).length = n := ⟨_, rfl⟩
      rw [hne] at H1
      try rw [hne]
      have Nne := Lib.hid hne
      clear hne
      go_enter Try.func41, Try.ntmps41
      go_wp2_with fail
      obtain ⟨W0, hW0⟩ : ∃ x, x = (((w.alloc (.cells #[.bool b0, .slice a0 nx c0, .slice e0 nd f0] 31)).alloc (.cells #[.bool b1, .slice a1 ny c1, .slice e1 ne f1] 31)).alloc (.cells #[.bool false, .slice none 0 0, .slice none 0 0] 31)) := ⟨_, rfl⟩
      have B := Lib.hid (show Below w.heap.size w W0 by rw [hW0]; exact ((((Below.refl _ _).alloc (Nat.le_refl _) _).alloc (by simp) _).alloc (by simp; omega) _))
      have D_x := Lib.hid (rx_at (show Rx W0 _ 31 (b0) (.slice a0 nx c0) (.slice e0 nd f0) by rw [hW0]; exact ((Rx.new _ _ _ _ _).alloc _).alloc _) (show w.heap.size = _ by simp))
      have D_y := Lib.hid (rx_at (show Rx W0 _ 31 (b1) (.slice a1 ny c1) (.slice e1 ne f1) by rw [hW0]; exact (Rx.new _ _ _ _ _).alloc _) (show (w.heap.size + 1) = _ by simp))
      have D_r := Lib.hid (rx_at (show Rx W0 _ 31 (false) (.slice none 0 0) (.slice none 0 0) by rw [hW0]; exact Rx.new _ _ _ _ _) (show (w.heap.size + 1 + 1) = _ by simp))
      have SZ := Lib.hid (show W0.heap.size = w.heap.size + 1 + 1 + 1 by rw [hW0]; simp)
      rw [← hW0]
      clear hW0
      have BB := Lib.hid (Below.refl W0.heap.size W0)
      refine (impl_start_yes b0 _ zs0 _ ds0 _ (H0.out.below B.out) E0.out).mono ?_
      rintro e9 w1 ⟨p, rfl, DP, hp, bw1⟩
      have DP := Lib.hid DP
      have HP := Lib.hid (show W0.heap.size ≤ p from hp)
      clear hp
      replace B := Lib.hid (B.out.trans (bw1.mono B.out.size))
      replace BB := Lib.hid (BB.out.trans (bw1.mono BB.out.size))
      clear bw1
      have c0_x := (D_x.out.below BB.out).c0
      have c1_x := (D_x.out.below BB.out).c1
      have c2_x := (D_x.out.below BB.out).c2
      have c0_y := (D_y.out.below BB.out).c0
      have c1_y := (D_y.out.below BB.out).c1
      have c2_y := (D_y.out.below BB.out).c2
      have hmf : ∀ (fn : Fn) (first cap : Array Value) (w : World), (Instr.makeFunc fn first cap).run Try.prog w = .ok (.func fn first cap) w := fun _ _ _ _ => rfl
      go_wp2_with fail
      clear c0_x c1_x c2_x
      clear c0_y c1_y c2_y
      have hpw := DP.out.lt
      obtain ⟨W2, hW2⟩ : ∃ x, x = w1.alloc (.cells #[.bool b1, .slice a1 ny c1, .slice e1 ne f1] 31) := ⟨_, rfl⟩
      have DL := Lib.hid (show Rx W2 w1.heap.size 31 b1 (.slice a1 ny c1) (.slice e1 ne f1) by rw [hW2]; exact Rx.new _ _ _ _ _)
      replace DP := Lib.hid (show Rx W2 p 85 _ _ _ by rw [hW2]; exact DP.out.alloc _)
      replace BB := Lib.hid (show Below W0.heap.size W0 W2 by rw [hW2]; exact BB.out.alloc BB.out.size _)
      replace B := Lib.hid (show Below w.heap.size w W2 by rw [hW2]; exact B.out.alloc B.out.size _)
      rw [← hW2]
      clear hW2
      refine (impl_fold_bad p w1.heap.size _ b0 a0 nx c0 e0 nd f0 b1 a1 ny c1 e1 ne f1 zs1 ds1 W2 DP.out DL.out (by omega) (H1.out.below B.out) E1.out HND.out).mono ?_
      rintro r2 w3 ⟨rfl, bw3⟩
      have D9 := D_r.out.below (BB.out.trans (bw3.mono BB.out.size))
      have B9 := B.out.trans (bw3.mono B.out.size)
      have q0 := D9.c0; have q1 := D9.c1; have q2 := D9.c2; have q3 := D9.f 0; have q4 := D9.f 1; have q5 := D9.f 2
      obtain ⟨e1, e2⟩ := rat_end (b' := false) B9 D9 (OwnR.nil _ W0.heap.size) (by decide) (by have := SZ.out; omega) (by omega) (.slice none 0 0) (.slice none 0 0)
      have D8 := Rx.set3 (b' := false) (v' := .slice none 0 0) (d' := .slice none 0 0) D9
      have hc0 := D8.c0; have hc1 := D8.c1; have hc2 := D8.c2
      go_wp2
      exact bodyPost_ret (v := .agg #[.bool false, .slice none 0 0, .slice none 0 0]) (by simp [results, Try.results41, go_sem, hc0, hc1, hc2]) rfl ⟨_, _, rfl, e1, e2⟩

    | true =>
      obtain ⟨x, d, rfl, rfl, hx, hd, hd0, g0, n0⟩ := ratOk_parts q0
      obtain ⟨y, e, rfl, rfl, hy, he, he0, g1, n1⟩ := ratOk_parts q1
      have HE := ratMul_yes q0 q1
      rw [HE.1, HE.2.1, HE.2.2]
      have E0 := Lib.hid q0
      have E1 := Lib.hid q1
      have HND0 : Hid (0 < (limI d).length) := Lib.hid ((limI_pos d).2 hd0)
      have CH := Lib.hid (And.intro hx (And.intro hd (And.intro hy (And.intro he (And.intro hd0 (And.intro he0 (And.intro g0 (And.intro g1 (And.intro n0 n1)))))))))
      clear HE q0 q1 hx hd hy he hd0 he0 g0 g1 n0 n1
      obtain ⟨SS, hSS⟩ : ∃ s, mkB (!(b0 == b1)) (lowX (x * y) (d * e)) (lowD (x * y) (d * e)) = s := ⟨_, rfl⟩
      obtain ⟨ZZ, hZZ⟩ : ∃ s, mkZ (lowX (x * y) (d * e)) (lowD (x * y) (d * e)) = s := ⟨_, rfl⟩
      obtain ⟨DD, hDD⟩ : ∃ s, mkD (lowX (x * y) (d * e)) (lowD (x * y) (d * e)) = s := ⟨_, rfl⟩
      rw [hSS, hZZ, hDD]
      have HQ := Lib.hid (And.intro hSS (And.intro hZZ hDD))
      clear hSS hZZ hDD
      have H0 := Lib.hid h0
      have H1 := Lib.hid h1
      obtain ⟨⟨a0, c0, rfl, z1, z2, z3⟩, ⟨e0, f0, rfl, z4, z5, z6⟩⟩ := h0
      clear z1 z2 z3 z4 z5 z6
      obtain ⟨⟨a1, c1, rfl, z1, z2, z3⟩, ⟨e1, f1, rfl, z4, z5, z6⟩⟩ := h1
      clear z1 z2 z3 z4 z5 z6
      obtain ⟨nx, hnx⟩ : ∃ n, ((limI x)).length = n := ⟨_, rfl⟩
      rw [hnx] at H0
      try rw [hnx]
      have Nnx := Lib.hid hnx
      clear hnx
      obtain ⟨nd, hnd⟩ : ∃ n, ((limI d)).length = n := ⟨_, rfl⟩
      rw [hnd] at H0
      try rw [hnd]
      have Nnd := Lib.hid hnd
      have HND := Lib.hid (show 0 < nd by rw [← hnd]; exact HND0.out)
      clear hnd
      obtain ⟨ny, hny⟩ : ∃ n, ((limI y)).length = n := ⟨_, rfl⟩
      rw [hny] at H1
      try rw [hny]
      have Nny := Lib.hid hny
      clear hny
      obtain ⟨ne, hne⟩ : ∃ n, ((limI e)).length = n := ⟨_, rfl⟩
      rw [hne] at H1
      try rw [hne]
      have Nne := Lib.hid hne
      clear hne
      go_enter Try.func41, Try.ntmps41
      go_wp2_with fail
      obtain ⟨W0, hW0⟩ : ∃ x, x = (((w.alloc (.cells #[.bool b0, .slice a0 nx c0, .slice e0 nd f0] 31)).alloc (.cells #[.bool b1, .slice a1 ny c1, .slice e1 ne f1] 31)).alloc (.cells #[.bool false, .slice none 0 0, .slice none 0 0] 31)) := ⟨_, rfl⟩
      have B := Lib.hid (show Below w.heap.size w W0 by rw [hW0]; exact ((((Below.refl _ _).alloc (Nat.le_refl _) _).alloc (by simp) _).alloc (by simp; omega) _))
      have D_x := Lib.hid (rx_at (show Rx W0 _ 31 (b0) (.slice a0 nx c0) (.slice e0 nd f0) by rw [hW0]; exact ((Rx.new _ _ _ _ _).alloc _).alloc _) (show w.heap.size = _ by simp))
      have D_y := Lib.hid (rx_at (show Rx W0 _ 31 (b1) (.slice a1 ny c1) (.slice e1 ne f1) by rw [hW0]; exact (Rx.new _ _ _ _ _).alloc _) (show (w.heap.size + 1) = _ by simp))
      have D_r := Lib.hid (rx_at (show Rx W0 _ 31 (false) (.slice none 0 0) (.slice none 0 0) by rw [hW0]; exact Rx.new _ _ _ _ _) (show (w.heap.size + 1 + 1) = _ by simp))
      have SZ := Lib.hid (show W0.heap.size = w.heap.size + 1 + 1 + 1 by rw [hW0]; simp)
      rw [← hW0]
      clear hW0
      have BB := Lib.hid (Below.refl W0.heap.size W0)
      refine (impl_start_yes b0 _ (limI x) _ (limI d) _ (H0.out.below B.out) E0.out).mono ?_
      rintro e9 w1 ⟨p, rfl, DP, hp, bw1⟩
      have DP := Lib.hid DP
      have HP := Lib.hid (show W0.heap.size ≤ p from hp)
      clear hp
      replace B := Lib.hid (B.out.trans (bw1.mono B.out.size))
      replace BB := Lib.hid (BB.out.trans (bw1.mono BB.out.size))
      clear bw1
      have c0_x := (D_x.out.below BB.out).c0
      have c1_x := (D_x.out.below BB.out).c1
      have c2_x := (D_x.out.below BB.out).c2
      have c0_y := (D_y.out.below BB.out).c0
      have c1_y := (D_y.out.below BB.out).c1
      have c2_y := (D_y.out.below BB.out).c2
      have hmf : ∀ (fn : Fn) (first cap : Array Value) (w : World), (Instr.makeFunc fn first cap).run Try.prog w = .ok (.func fn first cap) w := fun _ _ _ _ => rfl
      go_wp2_with fail
      clear c0_x c1_x c2_x
      clear c0_y c1_y c2_y
      have hpw := DP.out.lt
      obtain ⟨W2, hW2⟩ : ∃ x, x = w1.alloc (.cells #[.bool b1, .slice a1 ny c1, .slice e1 ne f1] 31) := ⟨_, rfl⟩
      have DL := Lib.hid (show Rx W2 w1.heap.size 31 b1 (.slice a1 ny c1) (.slice e1 ne f1) by rw [hW2]; exact Rx.new _ _ _ _ _)
      replace DP := Lib.hid (show Rx W2 p 85 _ _ _ by rw [hW2]; exact DP.out.alloc _)
      replace BB := Lib.hid (show Below W0.heap.size W0 W2 by rw [hW2]; exact BB.out.alloc BB.out.size _)
      replace B := Lib.hid (show Below w.heap.size w W2 by rw [hW2]; exact B.out.alloc B.out.size _)
      rw [← hW2]
      clear hW2
      refine (impl_foldMul p w1.heap.size (fun W b v dd => b = mkB (!(b0 == b1)) (lowX (x * y) (d * e)) (lowD (x * y) (d * e)) ∧ OwnR W W2.heap.size v (mkZ (lowX (x * y) (d * e)) (lowD (x * y) (d * e))) dd (mkD (lowX (x * y) (d * e)) (lowD (x * y) (d * e)))) b0 a0 nx c0 e0 nd f0 b1 a1 ny c1 e1 ne f1 (limI y) (limI e) W2 DP.out DL.out (by omega) (H1.out.below B.out) E1.out HND.out (fun W hW => ?_)).mono ?_
      · refine (impl_totMul p b0 _ x _ d b1 _ y _ e W (DP.out.below hW) (H0.out.below (B.out.trans (hW.mono B.out.size))) (H1.out.below (B.out.trans (hW.mono B.out.size))) CH.out.1 CH.out.2.1 CH.out.2.2.1 CH.out.2.2.2.1 CH.out.2.2.2.2.1 CH.out.2.2.2.2.2.1 CH.out.2.2.2.2.2.2.1 CH.out.2.2.2.2.2.2.2.1 CH.out.2.2.2.2.2.2.2.2.1 CH.out.2.2.2.2.2.2.2.2.2).mono ?_
        rintro r5 w5 ⟨hq5, ⟨v5, d5, hD5, ho5⟩, hg5⟩
        obtain ⟨a5, c5, e5, f5, rfl, rfl⟩ := ho5.slices
        exact ⟨hq5, ⟨_, _, _, _, _, _, _, hD5, rfl, ho5.base hW.size⟩, hg5⟩
      rintro r2 w3 ⟨b9, v9, d9, rfl, ⟨w8, q8, b8, v8, d8, ⟨rfl, o8⟩, D8, hq8, rfl⟩, g3⟩
      obtain ⟨a9, c9, e9, f9, rfl, rfl⟩ := o8.slices
      have o9 := o8.set3 (b' := mkB (!(b0 == b1)) (lowX (x * y) (d * e)) (lowD (x * y) (d * e))) D8 (by decide) (.slice a9 (mkZ (lowX (x * y) (d * e)) (lowD (x * y) (d * e))).length c9) (.slice e9 (mkD (lowX (x * y) (d * e)) (lowD (x * y) (d * e))).length f9)
      have D9 := (D_r.out.below BB.out).kept g3 (by intro h; injection h with h; have := HP.out; have := SZ.out; omega)
      have B9 := B.out.grown g3 B.out.size (fun k hk => by injection hk with hk; have := HP.out; have := SZ.out; omega)
      obtain ⟨w3, hw3⟩ : ∃ X9, X9 = (((w8.setCell ⟨q8, 0, none⟩ (.bool (mkB (!(b0 == b1)) (lowX (x * y) (d * e)) (lowD (x * y) (d * e))))).setCell ⟨q8, 1, none⟩ (.slice a9 (mkZ (lowX (x * y) (d * e)) (lowD (x * y) (d * e))).length c9)).setCell ⟨q8, 2, none⟩ (.slice e9 (mkD (lowX (x * y) (d * e)) (lowD (x * y) (d * e))).length f9)) := ⟨_, rfl⟩
      rw [← hw3] at o9 D9 B9 ⊢
      clear hw3 g3 D8 o8
      rw [HQ.out.2.1, HQ.out.2.2] at o9
      try rw [HQ.out.1] at o9
      rw [HQ.out.1, HQ.out.2.1, HQ.out.2.2]
      have q0 := D9.c0; have q1 := D9.c1; have q2 := D9.c2; have q3 := D9.f 0; have q4 := D9.f 1; have q5 := D9.f 2
      obtain ⟨e1, e2⟩ := rat_end (b' := SS) B9 D9 (o9.base (by have := BB.out.size; omega)) (by decide) (by have := SZ.out; show w.heap.size ≤ W0.heap.size; omega) (by omega) (.slice a9 ZZ.length c9) (.slice e9 DD.length f9)
      have D8 := Rx.set3 (b' := SS) (v' := .slice a9 ZZ.length c9) (d' := .slice e9 DD.length f9) D9
      have hc0 := D8.c0; have hc1 := D8.c1; have hc2 := D8.c2
      go_wp2
      exact bodyPost_ret (v := .agg #[.bool SS, .slice a9 ZZ.length c9, .slice e9 DD.length f9]) (by simp [results, Try.results41, go_sem, hc0, hc1, hc2]) rfl ⟨_, _, rfl, e1, e2⟩


set_option maxRecDepth 100000 in
set_option maxHeartbeats 2000000 in
theorem impl_ratDiv (b0 : Bool) (v0 : Value) (zs0 : List Int) (d0 : Value) (ds0 : List Int) (b1 : Bool) (v1 : Value) (zs1 : List Int) (d1 : Value) (ds1 : List Int) (w : World) (h0 : RowR w v0 zs0 d0 ds0) (h1 : RowR w v1 zs1 d1 ds1) :
    Calls Try.prog 43 #[.agg #[.bool b0, v0, d0], .agg #[.bool b1, v1, d1]] w fun r w' => ∃ v dd, r = .returned (.agg #[.bool (ratDivB b0 zs0 ds0 b1 zs1 ds1), v, dd]) ∧ OwnR w' w.heap.size v (ratDivZ b0 zs0 ds0 b1 zs1 ds1) dd (ratDivD b0 zs0 ds0 b1 zs1 ds1) ∧ Below w.heap.size w w' := by
  cases q0 : ratOk b0 zs0 ds0 with
  | false =>
    have HE := ratDiv_no (b1 := b1) (zs1 := zs1) (ds1 := ds1) (.inl q0)
    rw [HE.1, HE.2.1, HE.2.2]
    have E0 := Lib.hid q0
    clear HE q0
    have H0 := Lib.hid h0
    have H1 := Lib.hid h1
    obtain ⟨⟨a0, c0, rfl, z1, z2, z3⟩, ⟨e0, f0, rfl, z4, z5, z6⟩⟩ := h0
    clear z1 z2 z3 z4 z5 z6
    obtain ⟨⟨a1, c1, rfl, z1, z2, z3⟩, ⟨e1, f1, rfl, z4, z5, z6⟩⟩ := h1
    clear z1 z2 z3 z4 z5 z6
    obtain ⟨nx, hnx⟩ : ∃ n, (zs0).length = n := ⟨_, rfl⟩
    rw [hnx] at H0
    try rw [hnx]
    have Nnx := Lib.hid hnx
    clear hnx
    obtain ⟨nd, hnd⟩ : ∃ n, (ds0).length = n := ⟨_, rfl⟩
    rw [hnd] at H0
    try rw [hnd]
    have Nnd := Lib.hid hnd
    clear hnd
    obtain ⟨ny, hny⟩ : ∃ n, (zs1).length = n := ⟨_, rfl⟩
    rw [hny] at H1
    try rw [hny]
    have Nny := Lib.hid hny
    clear hny
    obtain ⟨ne, hne⟩ : ∃ n, (ds1).length = n := ⟨_, rfl⟩
    rw [hne] at H1
    try rw [hne]
    have Nne := Lib.hid hne
    clear hne
    go_enter Try.func43, Try.ntmps43
    go_wp2_with fail
    obtain ⟨W0, hW0⟩ : ∃ x, x = (((w.alloc (.cells #[.bool b0, .slice a0 nx c0, .slice e0 nd f0] 31)).alloc (.cells #[.bool b1, .slice a1 ny c1, .slice e1 ne f1] 31)).alloc (.cells #[.bool false, .slice none 0 0, .slice none 0 0] 31)) := ⟨_, rfl⟩
    have B := Lib.hid (show Below w.heap.size w W0 by rw [hW0]; exact ((((Below.refl _ _).alloc (Nat.le_refl _) _).alloc (by simp) _).alloc (by simp; omega) _))
    have D_x := Lib.hid (rx_at (show Rx W0 _ 31 (b0) (.slice a0 nx c0) (.slice e0 nd f0) by rw [hW0]; exact ((Rx.new _ _ _ _ _).alloc _).alloc _) (show w.heap.size = _ by simp))
    have D_y := Lib.hid (rx_at (show Rx W0 _ 31 (b1) (.slice a1 ny c1) (.slice e1 ne f1) by rw [hW0]; exact (Rx.new _ _ _ _ _).alloc _) (show (w.heap.size + 1) = _ by simp))
    have D_r := Lib.hid (rx_at (show Rx W0 _ 31 (false) (.slice none 0 0) (.slice none 0 0) by rw [hW0]; exact Rx.new _ _ _ _ _) (show (w.heap.size + 1 + 1) = _ by simp))
    have SZ := Lib.hid (show W0.heap.size = w.heap.size + 1 + 1 + 1 by rw [hW0]; simp)
    rw [← hW0]
    clear hW0
    have BB := Lib.hid (Below.refl W0.heap.size W0)
    refine (impl_start_no b0 _ zs0 _ ds0 _ (H0.out.below B.out) E0.out).mono ?_
    rintro e9 w1 ⟨p, rfl, DP, hp, bw1⟩
    have DP := Lib.hid DP
    have HP := Lib.hid (show W0.heap.size ≤ p from hp)
    clear hp
    replace B := Lib.hid (B.out.trans (bw1.mono B.out.size))
    replace BB := Lib.hid (BB.out.trans (bw1.mono BB.out.size))
    clear bw1
    have c0_x := (D_x.out.below BB.out).c0
    have c1_x := (D_x.out.below BB.out).c1
    have c2_x := (D_x.out.below BB.out).c2
    have c0_y := (D_y.out.below BB.out).c0
    have c1_y := (D_y.out.below BB.out).c1
    have c2_y := (D_y.out.below BB.out).c2
    have hmf : ∀ (fn : Fn) (first cap : Array Value) (w : World), (Instr.makeFunc fn first cap).run Try.prog w = .ok (.func fn first cap) w := fun _ _ _ _ => rfl
    go_wp2_with fail
    clear c0_x c1_x c2_x
    clear c0_y c1_y c2_y
    have hpw := DP.out.lt
    obtain ⟨W2, hW2⟩ : ∃ x, x = w1.alloc (.cells #[.bool b1, .slice a1 ny c1, .slice e1 ne f1] 31) := ⟨_, rfl⟩
    have DL := Lib.hid (show Rx W2 w1.heap.size 31 b1 (.slice a1 ny c1) (.slice e1 ne f1) by rw [hW2]; exact Rx.new _ _ _ _ _)
    replace DP := Lib.hid (show Rx W2 p 85 _ _ _ by rw [hW2]; exact DP.out.alloc _)
    replace BB := Lib.hid (show Below W0.heap.size W0 W2 by rw [hW2]; exact BB.out.alloc BB.out.size _)
    replace B := Lib.hid (show Below w.heap.size w W2 by rw [hW2]; exact B.out.alloc B.out.size _)
    rw [← hW2]
    clear hW2
    refine (impl_fold_zero p w1.heap.size _ b1 a1 ny c1 e1 ne f1 W2 DP.out DL.out (by omega)).mono ?_
    rintro r2 w3 ⟨rfl, bw3⟩
    have D9 := D_r.out.below (BB.out.trans (bw3.mono BB.out.size))
    have B9 := B.out.trans (bw3.mono B.out.size)
    have q0 := D9.c0; have q1 := D9.c1; have q2 := D9.c2; have q3 := D9.f 0; have q4 := D9.f 1; have q5 := D9.f 2
    obtain ⟨e1, e2⟩ := rat_end (b' := false) B9 D9 (OwnR.nil _ W0.heap.size) (by decide) (by have := SZ.out; omega) (by omega) (.slice none 0 0) (.slice none 0 0)
    have D8 := Rx.set3 (b' := false) (v' := .slice none 0 0) (d' := .slice none 0 0) D9
    have hc0 := D8.c0; have hc1 := D8.c1; have hc2 := D8.c2
    go_wp2
    exact bodyPost_ret (v := .agg #[.bool false, .slice none 0 0, .slice none 0 0]) (by simp [results, Try.results43, go_sem, hc0, hc1, hc2]) rfl ⟨_, _, rfl, e1, e2⟩

  | true =>
    cases q1 : ratOk b1 zs1 ds1 with
    | false =>
      have HE := ratDiv_no (b0 := b0) (zs0 := zs0) (ds0 := ds0) (.inr q1)
      rw [HE.1, HE.2.1, HE.2.2]
      have E0 := Lib.hid q0
      have E1 := Lib.hid q1
      have HND0 : Hid (0 < ds0.length) := Lib.hid (by obtain ⟨x, d, _, rfl, _, _, h9, _⟩ := ratOk_parts q0; exact (limI_pos d).2 h9)
      clear HE q0 q1
      have H0 := Lib.hid h0
      have H1 := Lib.hid h1
      obtain ⟨⟨a0, c0, rfl, z1, z2, z3⟩, ⟨e0, f0, rfl, z4, z5, z6⟩⟩ := h0
      clear z1 z2 z3 z4 z5 z6
      obtain ⟨⟨a1, c1, rfl, z1, z2, z3⟩, ⟨e1, f1, rfl, z4, z5, z6⟩⟩ := h1
      clear z1 z2 z3 z4 z5 z6
      obtain ⟨nx, hnx⟩ : ∃ n, (zs0).length = n := ⟨_, rfl⟩
      rw [hnx] at H0
      try rw [hnx]
      have Nnx := Lib.hid hnx
      clear hnx
      obtain ⟨nd, hnd⟩ : ∃ n, (ds0).length = n := ⟨_, rfl⟩
      rw [hnd] at H0
      try rw [hnd]
      have Nnd := Lib.hid hnd
      have HND := Lib.hid (show 0 < nd by rw [← hnd]; exact HND0.out)
      clear hnd
      obtain ⟨ny, hny⟩ : ∃ n, (zs1).length = n := ⟨_, rfl⟩
      rw [hny] at H1
      try rw [hny]
      have Nny := Lib.hid hny
      clear hny
      obtain ⟨ne, hne⟩ : ∃ n, (ds1).length = n := ⟨_, rfl⟩
      rw [hne] at H1
      try rw [hne]
      have Nne := Lib.hid hne
      clear hne
      go_enter Try.func43, Try.ntmps43
      go_wp2_with fail
      obtain ⟨W0, hW0⟩ : ∃ x, x = (((w.alloc (.cells #[.bool b0, .slice a0 nx c0, .slice e0 nd f0] 31)).alloc (.cells #[.bool b1, .slice a1 ny c1, .slice e1 ne f1] 31)).alloc (.cells #[.bool false, .slice none 0 0, .slice none 0 0] 31)) := ⟨_, rfl⟩
      have B := Lib.hid (show Below w.heap.size w W0 by rw [hW0]; exact ((((Below.refl _ _).alloc (Nat.le_refl _) _).alloc (by simp) _).alloc (by simp; omega) _))
      have D_x := Lib.hid (rx_at (show Rx W0 _ 31 (b0) (.slice a0 nx c0) (.slice e0 nd f0) by rw [hW0]; exact ((Rx.new _ _ _ _ _).alloc _).alloc _) (show w.heap.size = _ by simp))
      have D_y := Lib.hid (rx_at (show Rx W0 _ 31 (b1) (.slice a1 ny c1) (.slice e1 ne f1) by rw [hW0]; exact (Rx.new _ _ _ _ _).alloc _) (show (w.heap.size + 1) = _ by simp))
      have D_r := Lib.hid (rx_at (show Rx W0 _ 31 (false) (.slice none 0 0) (.slice none 0 0) by rw [hW0]; exact Rx.new _ _ _ _ _) (show (w.heap.size + 1 + 1) = _ by simp))
      have SZ := Lib.hid (show W0.heap.size = w.heap.size + 1 + 1 + 1 by rw [hW0]; simp)
      rw [← hW0]
      clear hW0
      have BB := Lib.hid (Below.refl W0.heap.size W0)
      refine (impl_start_yes b0 _ zs0 _ ds0 _ (H0.out.below B.out) E0.out).mono ?_
      rintro e9 w1 ⟨p, rfl, DP, hp, bw1⟩
      have DP := Lib.hid DP
      have HP := Lib.hid (show W0.heap.size ≤ p from hp)
      clear hp
      replace B := Lib.hid (B.out.trans (bw1.mono B.out.size))
      replace BB := Lib.hid (BB.out.trans (bw1.mono BB.out.size))
      clear bw1
      have c0_x := (D_x.out.below BB.out).c0
      have c1_x := (D_x.out.below BB.out).c1
      have c2_x := (D_x.out.below BB.out).c2
      have c0_y := (D_y.out.below BB.out).c0
      have c1_y := (D_y.out.below BB.out).c1
      have c2_y := (D_y.out.below BB.out).c2
      have hmf : ∀ (fn : Fn) (first cap : Array Value) (w : World), (Instr.makeFunc fn first cap).run Try.prog w = .ok (.func fn first cap) w := fun _ _ _ _ => rfl
      go_wp2_with fail
      clear c0_x c1_x c2_x
      clear c0_y c1_y c2_y
      have hpw := DP.out.lt
      obtain ⟨W2, hW2⟩ : ∃ x, x = w1.alloc (.cells #[.bool b1, .slice a1 ny c1, .slice e1 ne f1] 31) := ⟨_, rfl⟩
      have DL := Lib.hid (show Rx W2 w1.heap.size 31 b1 (.slice a1 ny c1) (.slice e1 ne f1) by rw [hW2]; exact Rx.new _ _ _ _ _)
      replace DP := Lib.hid (show Rx W2 p 85 _ _ _ by rw [hW2]; exact DP.out.alloc _)
      replace BB := Lib.hid (show Below W0.heap.size W0 W2 by rw [hW2]; exact BB.out.alloc BB.out.size _)
      replace B := Lib.hid (show Below w.heap.size w W2 by rw [hW2]; exact B.out.alloc B.out.size _)
      rw [← hW2]
      clear hW2
      refine (impl_fold_bad p w1.heap.size _ b0 a0 nx c0 e0 nd f0 b1 a1 ny c1 e1 ne f1 zs1 ds1 W2 DP.out DL.out (by omega) (H1.out.below B.out) E1.out HND.out).mono ?_
      rintro r2 w3 ⟨rfl, bw3⟩
      have D9 := D_r.out.below (BB.out.trans (bw3.mono BB.out.size))
      have B9 := B.out.trans (bw3.mono B.out.size)
      have q0 := D9.c0; have q1 := D9.c1; have q2 := D9.c2; have q3 := D9.f 0; have q4 := D9.f 1; have q5 := D9.f 2
      obtain ⟨e1, e2⟩ := rat_end (b' := false) B9 D9 (OwnR.nil _ W0.heap.size) (by decide) (by have := SZ.out; omega) (by omega) (.slice none 0 0) (.slice none 0 0)
      have D8 := Rx.set3 (b' := false) (v' := .slice none 0 0) (d' := .slice none 0 0) D9
      have hc0 := D8.c0; have hc1 := D8.c1; have hc2 := D8.c2
      go_wp2
      exact bodyPost_ret (v := .agg #[.bool false, .slice none 0 0, .slice none 0 0]) (by simp [results, Try.results43, go_sem, hc0, hc1, hc2]) rfl ⟨_, _, rfl, e1, e2⟩

    | true =>
      obtain ⟨x, d, rfl, rfl, hx, hd, hd0, g0, n0⟩ := ratOk_parts q0
      obtain ⟨y, e, rfl, rfl, hy, he, he0, g1, n1⟩ := ratOk_parts q1
      have HE := ratDiv_yes q0 q1
      rw [HE.1, HE.2.1, HE.2.2]
      have E0 := Lib.hid q0
      have E1 := Lib.hid q1
      have HND0 : Hid (0 < (limI d).length) := Lib.hid ((limI_pos d).2 hd0)
      have CH := Lib.hid (And.intro hx (And.intro hd (And.intro hy (And.intro he (And.intro hd0 (And.intro he0 (And.intro g0 (And.intro g1 (And.intro n0 n1)))))))))
      clear HE q0 q1 hx hd hy he hd0 he0 g0 g1 n0 n1
      obtain ⟨SS, hSS⟩ : ∃ s, mkB (!(b0 == b1)) (lowX (x * e) (d * y)) (lowD (x * e) (d * y)) = s := ⟨_, rfl⟩
      obtain ⟨ZZ, hZZ⟩ : ∃ s, mkZ (lowX (x * e) (d * y)) (lowD (x * e) (d * y)) = s := ⟨_, rfl⟩
      obtain ⟨DD, hDD⟩ : ∃ s, mkD (lowX (x * e) (d * y)) (lowD (x * e) (d * y)) = s := ⟨_, rfl⟩
      rw [hSS, hZZ, hDD]
      have HQ := Lib.hid (And.intro hSS (And.intro hZZ hDD))
      clear hSS hZZ hDD
      have H0 := Lib.hid h0
      have H1 := Lib.hid h1
      obtain ⟨⟨a0, c0, rfl, z1, z2, z3⟩, ⟨e0, f0, rfl, z4, z5, z6⟩⟩ := h0
      clear z1 z2 z3 z4 z5 z6
      obtain ⟨⟨a1, c1, rfl, z1, z2, z3⟩, ⟨e1, f1, rfl, z4, z5, z6⟩⟩ := h1
      clear z1 z2 z3 z4 z5 z6
      obtain ⟨nx, hnx⟩ : ∃ n, ((limI x)).length = n := ⟨_, rfl⟩
      rw [hnx] at H0
      try rw [hnx]
      have Nnx := Lib.hid hnx
      clear hnx
      obtain ⟨nd, hnd⟩ : ∃ n, ((limI d)).length = n := ⟨_, rfl⟩
      rw [hnd] at H0
      try rw [hnd]
      have Nnd := Lib.hid hnd
      have HND := Lib.hid (show 0 < nd by rw [← hnd]; exact HND0.out)
      clear hnd
      obtain ⟨ny, hny⟩ : ∃ n, ((limI y)).length = n := ⟨_, rfl⟩
      rw [hny] at H1
      try rw [hny]
      have Nny := Lib.hid hny
      clear hny
      obtain ⟨ne, hne⟩ : ∃ n, ((limI e)).length = n := ⟨_, rfl⟩
      rw [hne] at H1
      try rw [hne]
      have Nne := Lib.hid hne
      clear hne
      go_enter Try.func43, Try.ntmps43
      go_wp2_with fail
      obtain ⟨W0, hW0⟩ : ∃ x, x = (((w.alloc (.cells #[.bool b0, .slice a0 nx c0, .slice e0 nd f0] 31)).alloc (.cells #[.bool b1, .slice a1 ny c1, .slice e1 ne f1] 31)).alloc (.cells #[.bool false, .slice none 0 0, .slice none 0 0] 31)) := ⟨_, rfl⟩
      have B := Lib.hid (show Below w.heap.size w W0 by rw [hW0]; exact ((((Below.refl _ _).alloc (Nat.le_refl _) _).alloc (by simp) _).alloc (by simp; omega) _))
      have D_x := Lib.hid (rx_at (show Rx W0 _ 31 (b0) (.slice a0 nx c0) (.slice e0 nd f0) by rw [hW0]; exact ((Rx.new _ _ _ _ _).alloc _).alloc _) (show w.heap.size = _ by simp))
      have D_y := Lib.hid (rx_at (show Rx W0 _ 31 (b1) (.slice a1 ny c1) (.slice e1 ne f1) by rw [hW0]; exact (Rx.new _ _ _ _ _).alloc _) (show (w.heap.size + 1) = _ by simp))
      have D_r := Lib.hid (rx_at (show Rx W0 _ 31 (false) (.slice none 0 0) (.slice none 0 0) by rw [hW0]; exact Rx.new _ _ _ _ _) (show (w.heap.size + 1 + 1) = _ by simp))
      have SZ := Lib.hid (show W0.heap.size = w.heap.size + 1 + 1 + 1 by rw [hW0]; simp)
      rw [← hW0]
      clear hW0
      have BB := Lib.hid (Below.refl W0.heap.size W0)
      refine (impl_start_yes b0 _ (limI x) _ (limI d) _ (H0.out.below B.out) E0.out).mono ?_
      rintro e9 w1 ⟨p, rfl, DP, hp, bw1⟩
      have DP := Lib.hid DP
      have HP := Lib.hid (show W0.heap.size ≤ p from hp)
      clear hp
      replace B := Lib.hid (B.out.trans (bw1.mono B.out.size))
      replace BB := Lib.hid (BB.out.trans (bw1.mono BB.out.size))
      clear bw1
      have c0_x := (D_x.out.below BB.out).c0
      have c1_x := (D_x.out.below BB.out).c1
      have c2_x := (D_x.out.below BB.out).c2
      have c0_y := (D_y.out.below BB.out).c0
      have c1_y := (D_y.out.below BB.out).c1
      have c2_y := (D_y.out.below BB.out).c2
      have hmf : ∀ (fn : Fn) (first cap : Array Value) (w : World), (Instr.makeFunc fn first cap).run Try.prog w = .ok (.func fn first cap) w := fun _ _ _ _ => rfl
      go_wp2_with fail
      clear c0_x c1_x c2_x
      clear c0_y c1_y c2_y
      have hpw := DP.out.lt
      obtain ⟨W2, hW2⟩ : ∃ x, x = w1.alloc (.cells #[.bool b1, .slice a1 ny c1, .slice e1 ne f1] 31) := ⟨_, rfl⟩
      have DL := Lib.hid (show Rx W2 w1.heap.size 31 b1 (.slice a1 ny c1) (.slice e1 ne f1) by rw [hW2]; exact Rx.new _ _ _ _ _)
      replace DP := Lib.hid (show Rx W2 p 85 _ _ _ by rw [hW2]; exact DP.out.alloc _)
      replace BB := Lib.hid (show Below W0.heap.size W0 W2 by rw [hW2]; exact BB.out.alloc BB.out.size _)
      replace B := Lib.hid (show Below w.heap.size w W2 by rw [hW2]; exact B.out.alloc B.out.size _)
      rw [← hW2]
      clear hW2
      refine (impl_foldDiv p w1.heap.size (fun W b v dd => b = mkB (!(b0 == b1)) (lowX (x * e) (d * y)) (lowD (x * e) (d * y)) ∧ OwnR W W2.heap.size v (mkZ (lowX (x * e) (d * y)) (lowD (x * e) (d * y))) dd (mkD (lowX (x * e) (d * y)) (lowD (x * e) (d * y)))) b0 a0 nx c0 e0 nd f0 b1 a1 ny c1 e1 ne f1 (limI y) (limI e) W2 DP.out DL.out (by omega) (H1.out.below B.out) E1.out HND.out (fun W hW => ?_)).mono ?_
      · refine (impl_totDiv p b0 _ x _ d b1 _ y _ e W (DP.out.below hW) (H0.out.below (B.out.trans (hW.mono B.out.size))) (H1.out.below (B.out.trans (hW.mono B.out.size))) CH.out.1 CH.out.2.1 CH.out.2.2.1 CH.out.2.2.2.1 CH.out.2.2.2.2.1 CH.out.2.2.2.2.2.1 CH.out.2.2.2.2.2.2.1 CH.out.2.2.2.2.2.2.2.1 CH.out.2.2.2.2.2.2.2.2.1 CH.out.2.2.2.2.2.2.2.2.2).mono ?_
        rintro r5 w5 ⟨hq5, ⟨v5, d5, hD5, ho5⟩, hg5⟩
        obtain ⟨a5, c5, e5, f5, rfl, rfl⟩ := ho5.slices
        exact ⟨hq5, ⟨_, _, _, _, _, _, _, hD5, rfl, ho5.base hW.size⟩, hg5⟩
      rintro r2 w3 ⟨b9, v9, d9, rfl, ⟨w8, q8, b8, v8, d8, ⟨rfl, o8⟩, D8, hq8, rfl⟩, g3⟩
      obtain ⟨a9, c9, e9, f9, rfl, rfl⟩ := o8.slices
      have o9 := o8.set3 (b' := mkB (!(b0 == b1)) (lowX (x * e) (d * y)) (lowD (x * e) (d * y))) D8 (by decide) (.slice a9 (mkZ (lowX (x * e) (d * y)) (lowD (x * e) (d * y))).length c9) (.slice e9 (mkD (lowX (x * e) (d * y)) (lowD (x * e) (d * y))).length f9)
      have D9 := (D_r.out.below BB.out).kept g3 (by intro h; injection h with h; have := HP.out; have := SZ.out; omega)
      have B9 := B.out.grown g3 B.out.size (fun k hk => by injection hk with hk; have := HP.out; have := SZ.out; omega)
      obtain ⟨w3, hw3⟩ : ∃ X9, X9 = (((w8.setCell ⟨q8, 0, none⟩ (.bool (mkB (!(b0 == b1)) (lowX (x * e) (d * y)) (lowD (x * e) (d * y))))).setCell ⟨q8, 1, none⟩ (.slice a9 (mkZ (lowX (x * e) (d * y)) (lowD (x * e) (d * y))).length c9)).setCell ⟨q8, 2, none⟩ (.slice e9 (mkD (lowX (x * e) (d * y)) (lowD (x * e) (d * y))).length f9)) := ⟨_, rfl⟩
      rw [← hw3] at o9 D9 B9 ⊢
      clear hw3 g3 D8 o8
      rw [HQ.out.2.1, HQ.out.2.2] at o9
      try rw [HQ.out.1] at o9
      rw [HQ.out.1, HQ.out.2.1, HQ.out.2.2]
      have q0 := D9.c0; have q1 := D9.c1; have q2 := D9.c2; have q3 := D9.f 0; have q4 := D9.f 1; have q5 := D9.f 2
      obtain ⟨e1, e2⟩ := rat_end (b' := SS) B9 D9 (o9.base (by have := BB.out.size; omega)) (by decide) (by have := SZ.out; show w.heap.size ≤ W0.heap.size; omega) (by omega) (.slice a9 ZZ.length c9) (.slice e9 DD.length f9)
      have D8 := Rx.set3 (b' := SS) (v' := .slice a9 ZZ.length c9) (d' := .slice e9 DD.length f9) D9
      have hc0 := D8.c0; have hc1 := D8.c1; have hc2 := D8.c2
      go_wp2
      exact bodyPost_ret (v := .agg #[.bool SS, .slice a9 ZZ.length c9, .slice e9 DD.length f9]) (by simp [results, Try.results43, go_sem, hc0, hc1, hc2]) rfl ⟨_, _, rfl, e1, e2⟩


set_option maxRecDepth 100000 in
set_option maxHeartbeats 2000000 in
theorem impl_ratMin (b0 : Bool) (v0 : Value) (zs0 : List Int) (d0 : Value) (ds0 : List Int) (b1 : Bool) (v1 : Value) (zs1 : List Int) (d1 : Value) (ds1 : List Int) (w : World) (h0 : RowR w v0 zs0 d0 ds0) (h1 : RowR w v1 zs1 d1 ds1) :
    Calls Try.prog 51 #[.agg #[.bool b0, v0, d0], .agg #[.bool b1, v1, d1]] w fun r w' => ∃ v dd, r = .returned (.agg #[.bool (ratMinB b0 zs0 ds0 b1 zs1 ds1), v, dd]) ∧ OwnR w' w.heap.size v (ratMinZ b0 zs0 ds0 b1 zs1 ds1) dd (ratMinD b0 zs0 ds0 b1 zs1 ds1) ∧ Below w.heap.size w w' := by
  cases q0 : ratOk b0 zs0 ds0 with
  | false =>
    have HE := ratMin_no (b1 := b1) (zs1 := zs1) (ds1 := ds1) (.inl q0)
    rw [HE.1, HE.2.1, HE.2.2]
    have E0 := Lib.hid q0
    clear HE q0
    have H0 := Lib.hid h0
    have H1 := Lib.hid h1
    obtain ⟨⟨a0, c0, rfl, z1, z2, z3⟩, ⟨e0, f0, rfl, z4, z5, z6⟩⟩ := h0
    clear z1 z2 z3 z4 z5 z6
    obtain ⟨⟨a1, c1, rfl, z1, z2, z3⟩, ⟨e1, f1, rfl, z4, z5, z6⟩⟩ := h1
    clear z1 z2 z3 z4 z5 z6
    obtain ⟨nx, hnx⟩ : ∃ n, (zs0).length = n := ⟨_, rfl⟩
    rw [hnx] at H0
    try rw [hnx]
    have Nnx := Lib.hid hnx
    clear hnx
    obtain ⟨nd, hnd⟩ : ∃ n, (ds0).length = n := ⟨_, rfl⟩
    rw [hnd] at H0
    try rw [hnd]
    have Nnd := Lib.hid hnd
    clear hnd
    obtain ⟨ny, hny⟩ : ∃ n, (zs1).length = n := ⟨_, rfl⟩
    rw [hny] at H1
    try rw [hny]
    have Nny := Lib.hid hny
    clear hny
    obtain ⟨ne, hne⟩ : ∃ n, (ds1).length = n := ⟨_, rfl⟩
    rw [hne] at H1
    try rw [hne]
    have Nne := Lib.hid hne
    clear hne
    go_enter Try.func51, Try.ntmps51
    go_wp2_with fail
    obtain ⟨W0, hW0⟩ : ∃ x, x = (((w.alloc (.cells #[.bool b0, .slice a0 nx c0, .slice e0 nd f0] 31)).alloc (.cells #[.bool b1, .slice a1 ny c1, .slice e1 ne f1] 31)).alloc (.cells #[.bool false, .slice none 0 0, .slice none 0 0] 31)) := ⟨_, rfl⟩
    have B := Lib.hid (show Below w.heap.size w W0 by rw [hW0]; exact ((((Below.refl _ _).alloc (Nat.le_refl _) _).alloc (by simp) _).alloc (by simp; omega) _))
    have D_x := Lib.hid (rx_at (show Rx W0 _ 31 (b0) (.slice a0 nx c0) (.slice e0 nd f0) by rw [hW0]; exact ((Rx.new _ _ _ _ _).alloc _).alloc _) (show w.heap.size = _ by simp))
    have D_y := Lib.hid (rx_at (show Rx W0 _ 31 (b1) (.slice a1 ny c1) (.slice e1 ne f1) by rw [hW0]; exact (Rx.new _ _ _ _ _).alloc _) (show (w.heap.size + 1) = _ by simp))
    have D_r := Lib.hid (rx_at (show Rx W0 _ 31 (false) (.slice none 0 0) (.slice none 0 0) by rw [hW0]; exact Rx.new _ _ _ _ _) (show (w.heap.size + 1 + 1) = _ by simp))
    have SZ := Lib.hid (show W0.heap.size = w.heap.size + 1 + 1 + 1 by rw [hW0]; simp)
    rw [← hW0]
    clear hW0
    have BB := Lib.hid (Below.refl W0.heap.size W0)
    refine (impl_start_no b0 _ zs0 _ ds0 _ (H0.out.below B.out) E0.out).mono ?_
    rintro e9 w1 ⟨p, rfl, DP, hp, bw1⟩
    have DP := Lib.hid DP
    have HP := Lib.hid (show W0.heap.size ≤ p from hp)
    clear hp
    replace B := Lib.hid (B.out.trans (bw1.mono B.out.size))
    replace BB := Lib.hid (BB.out.trans (bw1.mono BB.out.size))
    clear bw1
    have c0_x := (D_x.out.below BB.out).c0
    have c1_x := (D_x.out.below BB.out).c1
    have c2_x := (D_x.out.below BB.out).c2
    have c0_y := (D_y.out.below BB.out).c0
    have c1_y := (D_y.out.below BB.out).c1
    have c2_y := (D_y.out.below BB.out).c2
    have hmf : ∀ (fn : Fn) (first cap : Array Value) (w : World), (Instr.makeFunc fn first cap).run Try.prog w = .ok (.func fn first cap) w := fun _ _ _ _ => rfl
    go_wp2_with fail
    clear c0_x c1_x c2_x
    clear c0_y c1_y c2_y
    have hpw := DP.out.lt
    obtain ⟨W2, hW2⟩ : ∃ x, x = w1.alloc (.cells #[.bool b1, .slice a1 ny c1, .slice e1 ne f1] 31) := ⟨_, rfl⟩
    have DL := Lib.hid (show Rx W2 w1.heap.size 31 b1 (.slice a1 ny c1) (.slice e1 ne f1) by rw [hW2]; exact Rx.new _ _ _ _ _)
    replace DP := Lib.hid (show Rx W2 p 85 _ _ _ by rw [hW2]; exact DP.out.alloc _)
    replace BB := Lib.hid (show Below W0.heap.size W0 W2 by rw [hW2]; exact BB.out.alloc BB.out.size _)
    replace B := Lib.hid (show Below w.heap.size w W2 by rw [hW2]; exact B.out.alloc B.out.size _)
    rw [← hW2]
    clear hW2
    refine (impl_fold_zero p w1.heap.size _ b1 a1 ny c1 e1 ne f1 W2 DP.out DL.out (by omega)).mono ?_
    rintro r2 w3 ⟨rfl, bw3⟩
    have D9 := D_r.out.below (BB.out.trans (bw3.mono BB.out.size))
    have B9 := B.out.trans (bw3.mono B.out.size)
    have hcl := impl_cloneR false _ 0 _ 0 w3 (show RowR w3 (.slice none 0 0) (limI 0) (.slice none 0 0) (limI 0) by rw [limI_zero]; exact (OwnR.nil w3 0).row) (pw_pos 24) (pw_pos 24)
    rw [limI_zero] at hcl
    go_wp2_with fail
    refine hcl.mono ?_
    rintro r3 w4 ⟨v4, d4, rfl, o4, bw4⟩
    obtain ⟨a4, c4, e4, f4, rfl, rfl⟩ := o4.slices
    replace D9 := D9.below bw4
    replace B9 := B9.trans (bw4.mono B9.size)
    have q0 := D9.c0; have q1 := D9.c1; have q2 := D9.c2; have q3 := D9.f 0; have q4 := D9.f 1; have q5 := D9.f 2
    obtain ⟨e1, e2⟩ := rat_end (b' := false) B9 D9 (OwnR.base (B' := W0.heap.size) o4 (by have := BB.out.size; have := bw3.size; omega)) (by decide) (by have := SZ.out; omega) (by omega) (.slice a4 0 c4) (.slice e4 0 f4)
    have D8 := Rx.set3 (b' := false) (v' := .slice a4 0 c4) (d' := .slice e4 0 f4) D9
    have hc0 := D8.c0; have hc1 := D8.c1; have hc2 := D8.c2
    go_wp2
    exact bodyPost_ret (v := .agg #[.bool false, .slice a4 0 c4, .slice e4 0 f4]) (by simp [results, Try.results51, go_sem, hc0, hc1, hc2]) rfl ⟨_, _, rfl, e1, e2⟩

  | true =>
    cases q1 : ratOk b1 zs1 ds1 with
    | false =>
      have HE := ratMin_no (b0 := b0) (zs0 := zs0) (ds0 := ds0) (.inr q1)
      rw [HE.1, HE.2.1, HE.2.2]
      have E0 := Lib.hid q0
      have E1 := Lib.hid q1
      have HND0 : Hid (0 < ds0.length) := Lib.hid (by obtain ⟨x, d, _, rfl, _, _, h9, _⟩ := ratOk_parts q0; exact (limI_pos d).2 h9)
      clear HE q0 q1
      have H0 := Lib.hid h0
      have H1 := Lib.hid h1
      obtain ⟨⟨a0, c0, rfl, z1, z2, z3⟩, ⟨e0, f0, rfl, z4, z5, z6⟩⟩ := h0
      clear z1 z2 z3 z4 z5 z6
      obtain ⟨⟨a1, c1, rfl, z1, z2, z3⟩, ⟨e1, f1, rfl, z4, z5, z6⟩⟩ := h1
      clear z1 z2 z3 z4 z5 z6
      obtain ⟨nx, hnx⟩ : ∃ n, (zs0).length = n := ⟨_, rfl⟩
      rw [hnx] at H0
      try rw [hnx]
      have Nnx := Lib.hid hnx
      clear hnx
      obtain ⟨nd, hnd⟩ : ∃ n, (ds0).length = n := ⟨_, rfl⟩
      rw [hnd] at H0
      try rw [hnd]
      have Nnd := Lib.hid hnd
      have HND := Lib.hid (show 0 < nd by rw [← hnd]; exact HND0.out)
      clear hnd
      obtain ⟨ny, hny⟩ : ∃ n, (zs1).length = n := ⟨_, rfl⟩
      rw [hny] at H1
      try rw [hny]
      have Nny := Lib.hid hny
      clear hny
      obtain ⟨ne, hne⟩ : ∃ n, (ds1).length = n := ⟨_, rfl⟩
      rw [hne] at H1
      try rw [hne]
      have Nne := Lib.hid hne
      clear hne
      go_enter Try.func51, Try.ntmps51
      go_wp2_with fail
      obtain ⟨W0, hW0⟩ : ∃ x, x = (((w.alloc (.cells #[.bool b0, .slice a0 nx c0, .slice e0 nd f0] 31)).alloc (.cells #[.bool b1, .slice a1 ny c1, .slice e1 ne f1] 31)).alloc (.cells #[.bool false, .slice none 0 0, .slice none 0 0] 31)) := ⟨_, rfl⟩
      have B := Lib.hid (show Below w.heap.size w W0 by rw [hW0]; exact ((((Below.refl _ _).alloc (Nat.le_refl _) _).alloc (by simp) _).alloc (by simp; omega) _))
      have D_x := Lib.hid (rx_at (show Rx W0 _ 31 (b0) (.slice a0 nx c0) (.slice e0 nd f0) by rw [hW0]; exact ((Rx.new _ _ _ _ _).alloc _).alloc _) (show w.heap.size = _ by simp))
      have D_y := Lib.hid (rx_at (show Rx W0 _ 31 (b1) (.slice a1 ny c1) (.slice e1 ne f1) by rw [hW0]; exact (Rx.new _ _ _ _ _).alloc _) (show (w.heap.size + 1) = _ by simp))
      have D_r := Lib.hid (rx_at (show Rx W0 _ 31 (false) (.slice none 0 0) (.slice none 0 0) by rw [hW0]; exact Rx.new _ _ _ _ _) (show (w.heap.size + 1 + 1) = _ by simp))
      have SZ := Lib.hid (show W0.heap.size = w.heap.size + 1 + 1 + 1 by rw [hW0]; simp)
      rw [← hW0]
      clear hW0
      have BB := Lib.hid (Below.refl W0.heap.size W0)
      refine (impl_start_yes b0 _ zs0 _ ds0 _ (H0.out.below B.out) E0.out).mono ?_
      rintro e9 w1 ⟨p, rfl, DP, hp, bw1⟩
      have DP := Lib.hid DP
      have HP := Lib.hid (show W0.heap.size ≤ p from hp)
      clear hp
      replace B := Lib.hid (B.out.trans (bw1.mono B.out.size))
      replace BB := Lib.hid (BB.out.trans (bw1.mono BB.out.size))
      clear bw1
      have c0_x := (D_x.out.below BB.out).c0
      have c1_x := (D_x.out.below BB.out).c1
      have c2_x := (D_x.out.below BB.out).c2
      have c0_y := (D_y.out.below BB.out).c0
      have c1_y := (D_y.out.below BB.out).c1
      have c2_y := (D_y.out.below BB.out).c2
      have hmf : ∀ (fn : Fn) (first cap : Array Value) (w : World), (Instr.makeFunc fn first cap).run Try.prog w = .ok (.func fn first cap) w := fun _ _ _ _ => rfl
      go_wp2_with fail
      clear c0_x c1_x c2_x
      clear c0_y c1_y c2_y
      have hpw := DP.out.lt
      obtain ⟨W2, hW2⟩ : ∃ x, x = w1.alloc (.cells #[.bool b1, .slice a1 ny c1, .slice e1 ne f1] 31) := ⟨_, rfl⟩
      have DL := Lib.hid (show Rx W2 w1.heap.size 31 b1 (.slice a1 ny c1) (.slice e1 ne f1) by rw [hW2]; exact Rx.new _ _ _ _ _)
      replace DP := Lib.hid (show Rx W2 p 85 _ _ _ by rw [hW2]; exact DP.out.alloc _)
      replace BB := Lib.hid (show Below W0.heap.size W0 W2 by rw [hW2]; exact BB.out.alloc BB.out.size _)
      replace B := Lib.hid (show Below w.heap.size w W2 by rw [hW2]; exact B.out.alloc B.out.size _)
      rw [← hW2]
      clear hW2
      refine (impl_fold_bad p w1.heap.size _ b0 a0 nx c0 e0 nd f0 b1 a1 ny c1 e1 ne f1 zs1 ds1 W2 DP.out DL.out (by omega) (H1.out.below B.out) E1.out HND.out).mono ?_
      rintro r2 w3 ⟨rfl, bw3⟩
      have D9 := D_r.out.below (BB.out.trans (bw3.mono BB.out.size))
      have B9 := B.out.trans (bw3.mono B.out.size)
      have hcl := impl_cloneR false _ 0 _ 0 w3 (show RowR w3 (.slice none 0 0) (limI 0) (.slice none 0 0) (limI 0) by rw [limI_zero]; exact (OwnR.nil w3 0).row) (pw_pos 24) (pw_pos 24)
      rw [limI_zero] at hcl
      go_wp2_with fail
      refine hcl.mono ?_
      rintro r3 w4 ⟨v4, d4, rfl, o4, bw4⟩
      obtain ⟨a4, c4, e4, f4, rfl, rfl⟩ := o4.slices
      replace D9 := D9.below bw4
      replace B9 := B9.trans (bw4.mono B9.size)
      have q0 := D9.c0; have q1 := D9.c1; have q2 := D9.c2; have q3 := D9.f 0; have q4 := D9.f 1; have q5 := D9.f 2
      obtain ⟨e1, e2⟩ := rat_end (b' := false) B9 D9 (OwnR.base (B' := W0.heap.size) o4 (by have := BB.out.size; have := bw3.size; omega)) (by decide) (by have := SZ.out; omega) (by omega) (.slice a4 0 c4) (.slice e4 0 f4)
      have D8 := Rx.set3 (b' := false) (v' := .slice a4 0 c4) (d' := .slice e4 0 f4) D9
      have hc0 := D8.c0; have hc1 := D8.c1; have hc2 := D8.c2
      go_wp2
      exact bodyPost_ret (v := .agg #[.bool false, .slice a4 0 c4, .slice e4 0 f4]) (by simp [results, Try.results51, go_sem, hc0, hc1, hc2]) rfl ⟨_, _, rfl, e1, e2⟩

    | true =>
      obtain ⟨x, d, rfl, rfl, hx, hd, hd0, g0, n0⟩ := ratOk_parts q0
      obtain ⟨y, e, rfl, rfl, hy, he, he0, g1, n1⟩ := ratOk_parts q1
      have HE := ratMin_yes q0 q1
      rw [HE.1, HE.2.1, HE.2.2]
      have E0 := Lib.hid q0
      have E1 := Lib.hid q1
      have HND0 : Hid (0 < (limI d).length) := Lib.hid ((limI_pos d).2 hd0)
      have CH := Lib.hid (And.intro hx (And.intro hd (And.intro hy (And.intro he (And.intro hd0 (And.intro he0 (And.intro g0 (And.intro g1 (And.intro n0 n1)))))))))
      clear HE q0 q1 hx hd hy he hd0 he0 g0 g1 n0 n1
      by_cases ht : sgCmp b1 (y * d) b0 (x * e) < 0
      · have hs : secB true (sgCmp b1 (y * d) b0 (x * e)) = true := by unfold secB; simpa using ht
        have HT := Lib.hid (eq_true ht)
        rw [hs, if_pos rfl, if_pos rfl, if_pos rfl]
        clear ht hs
        have H0 := Lib.hid h0
        have H1 := Lib.hid h1
        obtain ⟨⟨a0, c0, rfl, z1, z2, z3⟩, ⟨e0, f0, rfl, z4, z5, z6⟩⟩ := h0
        clear z1 z2 z3 z4 z5 z6
        obtain ⟨⟨a1, c1, rfl, z1, z2, z3⟩, ⟨e1, f1, rfl, z4, z5, z6⟩⟩ := h1
        clear z1 z2 z3 z4 z5 z6
        obtain ⟨nx, hnx⟩ : ∃ n, ((limI x)).length = n := ⟨_, rfl⟩
        rw [hnx] at H0
        try rw [hnx]
        have Nnx := Lib.hid hnx
        clear hnx
        obtain ⟨nd, hnd⟩ : ∃ n, ((limI d)).length = n := ⟨_, rfl⟩
        rw [hnd] at H0
        try rw [hnd]
        have Nnd := Lib.hid hnd
        have HND := Lib.hid (show 0 < nd by rw [← hnd]; exact HND0.out)
        clear hnd
        obtain ⟨ny, hny⟩ : ∃ n, ((limI y)).length = n := ⟨_, rfl⟩
        rw [hny] at H1
        try rw [hny]
        have Nny := Lib.hid hny
        clear hny
        obtain ⟨ne, hne⟩ : ∃ n, ((limI e)).length = n := ⟨_, rfl⟩
        rw [hne] at H1
        try rw [hne]
        have Nne := Lib.hid hne
        clear hne
        go_enter Try.func51, Try.ntmps51
        go_wp2_with fail
        obtain ⟨W0, hW0⟩ : ∃ x, x = (((w.alloc (.cells #[.bool b0, .slice a0 nx c0, .slice e0 nd f0] 31)).alloc (.cells #[.bool b1, .slice a1 ny c1, .slice e1 ne f1] 31)).alloc (.cells #[.bool false, .slice none 0 0, .slice none 0 0] 31)) := ⟨_, rfl⟩
        have B := Lib.hid (show Below w.heap.size w W0 by rw [hW0]; exact ((((Below.refl _ _).alloc (Nat.le_refl _) _).alloc (by simp) _).alloc (by simp; omega) _))
        have D_x := Lib.hid (rx_at (show Rx W0 _ 31 (b0) (.slice a0 nx c0) (.slice e0 nd f0) by rw [hW0]; exact ((Rx.new _ _ _ _ _).alloc _).alloc _) (show w.heap.size = _ by simp))
        have D_y := Lib.hid (rx_at (show Rx W0 _ 31 (b1) (.slice a1 ny c1) (.slice e1 ne f1) by rw [hW0]; exact (Rx.new _ _ _ _ _).alloc _) (show (w.heap.size + 1) = _ by simp))
        have D_r := Lib.hid (rx_at (show Rx W0 _ 31 (false) (.slice none 0 0) (.slice none 0 0) by rw [hW0]; exact Rx.new _ _ _ _ _) (show (w.heap.size + 1 + 1) = _ by simp))
        have SZ := Lib.hid (show W0.heap.size = w.heap.size + 1 + 1 + 1 by rw [hW0]; simp)
        rw [← hW0]
        clear hW0
        have BB := Lib.hid (Below.refl W0.heap.size W0)
        refine (impl_start_yes b0 _ (limI x) _ (limI d) _ (H0.out.below B.out) E0.out).mono ?_
        rintro e9 w1 ⟨p, rfl, DP, hp, bw1⟩
        have DP := Lib.hid DP
        have HP := Lib.hid (show W0.heap.size ≤ p from hp)
        clear hp
        replace B := Lib.hid (B.out.trans (bw1.mono B.out.size))
        replace BB := Lib.hid (BB.out.trans (bw1.mono BB.out.size))
        clear bw1
        have c0_x := (D_x.out.below BB.out).c0
        have c1_x := (D_x.out.below BB.out).c1
        have c2_x := (D_x.out.below BB.out).c2
        have c0_y := (D_y.out.below BB.out).c0
        have c1_y := (D_y.out.below BB.out).c1
        have c2_y := (D_y.out.below BB.out).c2
        have hmf : ∀ (fn : Fn) (first cap : Array Value) (w : World), (Instr.makeFunc fn first cap).run Try.prog w = .ok (.func fn first cap) w := fun _ _ _ _ => rfl
        go_wp2_with fail
        clear c0_x c1_x c2_x
        clear c0_y c1_y c2_y
        have hpw := DP.out.lt
        obtain ⟨W2, hW2⟩ : ∃ x, x = w1.alloc (.cells #[.bool b1, .slice a1 ny c1, .slice e1 ne f1] 31) := ⟨_, rfl⟩
        have DL := Lib.hid (show Rx W2 w1.heap.size 31 b1 (.slice a1 ny c1) (.slice e1 ne f1) by rw [hW2]; exact Rx.new _ _ _ _ _)
        replace DP := Lib.hid (show Rx W2 p 85 _ _ _ by rw [hW2]; exact DP.out.alloc _)
        replace BB := Lib.hid (show Below W0.heap.size W0 W2 by rw [hW2]; exact BB.out.alloc BB.out.size _)
        replace B := Lib.hid (show Below w.heap.size w W2 by rw [hW2]; exact B.out.alloc B.out.size _)
        rw [← hW2]
        clear hW2
        refine (impl_foldLess p w1.heap.size (fun W b v dd => b1 = b ∧ .slice a1 ny c1 = v ∧ .slice e1 ne f1 = dd) b0 a0 nx c0 e0 nd f0 b1 a1 ny c1 e1 ne f1 (limI y) (limI e) W2 DP.out DL.out (by omega) (H1.out.below B.out) E1.out HND.out (fun W hW => ?_)).mono ?_
        · refine (impl_totLess p b0 _ x _ d b1 _ y _ e W (DP.out.below hW) (H0.out.below (B.out.trans (hW.mono B.out.size))) (H1.out.below (B.out.trans (hW.mono B.out.size))) CH.out.1 CH.out.2.1 CH.out.2.2.1 CH.out.2.2.2.1 CH.out.2.2.2.2.1 CH.out.2.2.2.2.2.1 CH.out.2.2.2.2.2.2.1 CH.out.2.2.2.2.2.2.2.1 CH.out.2.2.2.2.2.2.2.2.1 CH.out.2.2.2.2.2.2.2.2.2).mono ?_
          rintro r5 w5 ⟨hq5, hD5, hg5⟩
          simp only [HT.out, if_true, if_false] at hD5
          exact ⟨hq5, ⟨_, _, _, _, _, _, _, hD5, rfl, rfl, rfl⟩, hg5⟩
        rintro r2 w3 ⟨b9, v9, d9, rfl, ⟨w8, q8, b8, v8, d8, ⟨rfl, rfl, rfl⟩, D8, hq8, hw3⟩, g3⟩
        have D9 := (D_r.out.below BB.out).kept g3 (by intro h; injection h with h; have := HP.out; have := SZ.out; omega)
        have B9 := B.out.grown g3 B.out.size (fun k hk => by injection hk with hk; have := HP.out; have := SZ.out; omega)
        have R9 : RowR w3 (.slice a1 ny c1) (limI y) (.slice e1 ne f1) (limI e) := ⟨rowOf_kept (rowOf_below H1.out.1 B.out) DP.out g3, rowOf_kept (rowOf_below H1.out.2 B.out) DP.out g3⟩
        clear hw3 g3 D8
        have L9 := B9.size
        have hcl := impl_cloneR b1 _ y _ e w3 R9 CH.out.2.2.1 CH.out.2.2.2.1
        go_wp2_with fail
        refine hcl.mono ?_
        rintro r3 w4 ⟨v4, d4, rfl, o4, bw4⟩
        obtain ⟨a4, c4, e4, f4, rfl, rfl⟩ := o4.slices
        replace D9 := D9.below bw4
        replace B9 := B9.trans (bw4.mono B9.size)
        have q0 := D9.c0; have q1 := D9.c1; have q2 := D9.c2; have q3 := D9.f 0; have q4 := D9.f 1; have q5 := D9.f 2
        obtain ⟨e1, e2⟩ := rat_end (b' := b1) B9 D9 (o4.base L9) (by decide) (Nat.le_refl _) (by omega) (.slice a4 (limI y).length c4) (.slice e4 (limI e).length f4)
        have D8 := Rx.set3 (b' := b1) (v' := .slice a4 (limI y).length c4) (d' := .slice e4 (limI e).length f4) D9
        have hc0 := D8.c0; have hc1 := D8.c1; have hc2 := D8.c2
        go_wp2
        exact bodyPost_ret (v := .agg #[.bool b1, .slice a4 (limI y).length c4, .slice e4 (limI e).length f4]) (by simp [results, Try.results51, go_sem, hc0, hc1, hc2]) rfl ⟨_, _, rfl, e1, e2⟩

      · have hs : secB true (sgCmp b1 (y * d) b0 (x * e)) = false := by unfold secB; simpa using ht
        have HT := Lib.hid (eq_false ht)
        rw [hs, if_neg (by decide), if_neg (by decide), if_neg (by decide)]
        clear ht hs
        have H0 := Lib.hid h0
        have H1 := Lib.hid h1
        obtain ⟨⟨a0, c0, rfl, z1, z2, z3⟩, ⟨e0, f0, rfl, z4, z5, z6⟩⟩ := h0
        clear z1 z2 z3 z4 z5 z6
        obtain ⟨⟨a1, c1, rfl, z1, z2, z3⟩, ⟨e1, f1, rfl, z4, z5, z6⟩⟩ := h1
        clear z1 z2 z3 z4 z5 z6
        obtain ⟨nx, hnx⟩ : ∃ n, ((limI x)).length = n := ⟨_, rfl⟩
        rw [hnx] at H0
        try rw [hnx]
        have Nnx := Lib.hid hnx
        clear hnx
        obtain ⟨nd, hnd⟩ : ∃ n, ((limI d)).length = n := ⟨_, rfl⟩
        rw [hnd] at H0
        try rw [hnd]
        have Nnd := Lib.hid hnd
        have HND := Lib.hid (show 0 < nd by rw [← hnd]; exact HND0.out)
        clear hnd
        obtain ⟨ny, hny⟩ : ∃ n, ((limI y)).length = n := ⟨_, rfl⟩
        rw [hny] at H1
        try rw [hny]
        have Nny := Lib.hid hny
        clear hny
        obtain ⟨ne, hne⟩ : ∃ n, ((limI e)).length = n := ⟨_, rfl⟩
        rw [hne] at H1
        try rw [hne]
        have Nne := Lib.hid hne
        clear hne
        go_enter Try.func51, Try.ntmps51
        go_wp2_with fail
        obtain ⟨W0, hW0⟩ : ∃ x, x = (((w.alloc (.cells #[.bool b0, .slice a0 nx c0, .slice e0 nd f0] 31)).alloc (.cells #[.bool b1, .slice a1 ny c1, .slice e1 ne f1] 31)).alloc (.cells #[.bool false, .slice none 0 0, .slice none 0 0] 31)) := ⟨_, rfl⟩
        have B := Lib.hid (show Below w.heap.size w W0 by rw [hW0]; exact ((((Below.refl _ _).alloc (Nat.le_refl _) _).alloc (by simp) _).alloc (by simp; omega) _))
        have D_x := Lib.hid (rx_at (show Rx W0 _ 31 (b0) (.slice a0 nx c0) (.slice e0 nd f0) by rw [hW0]; exact ((Rx.new _ _ _ _ _).alloc _).alloc _) (show w.heap.size = _ by simp))
        have D_y := Lib.hid (rx_at (show Rx W0 _ 31 (b1) (.slice a1 ny c1) (.slice e1 ne f1) by rw [hW0]; exact (Rx.new _ _ _ _ _).alloc _) (show (w.heap.size + 1) = _ by simp))
        have D_r := Lib.hid (rx_at (show Rx W0 _ 31 (false) (.slice none 0 0) (.slice none 0 0) by rw [hW0]; exact Rx.new _ _ _ _ _) (show (w.heap.size + 1 + 1) = _ by simp))
        have SZ := Lib.hid (show W0.heap.size = w.heap.size + 1 + 1 + 1 by rw [hW0]; simp)
        rw [← hW0]
        clear hW0
        have BB := Lib.hid (Below.refl W0.heap.size W0)
        refine (impl_start_yes b0 _ (limI x) _ (limI d) _ (H0.out.below B.out) E0.out).mono ?_
        rintro e9 w1 ⟨p, rfl, DP, hp, bw1⟩
        have DP := Lib.hid DP
        have HP := Lib.hid (show W0.heap.size ≤ p from hp)
        clear hp
        replace B := Lib.hid (B.out.trans (bw1.mono B.out.size))
        replace BB := Lib.hid (BB.out.trans (bw1.mono BB.out.size))
        clear bw1
        have c0_x := (D_x.out.below BB.out).c0
        have c1_x := (D_x.out.below BB.out).c1
        have c2_x := (D_x.out.below BB.out).c2
        have c0_y := (D_y.out.below BB.out).c0
        have c1_y := (D_y.out.below BB.out).c1
        have c2_y := (D_y.out.below BB.out).c2
        have hmf : ∀ (fn : Fn) (first cap : Array Value) (w : World), (Instr.makeFunc fn first cap).run Try.prog w = .ok (.func fn first cap) w := fun _ _ _ _ => rfl
        go_wp2_with fail
        clear c0_x c1_x c2_x
        clear c0_y c1_y c2_y
        have hpw := DP.out.lt
        obtain ⟨W2, hW2⟩ : ∃ x, x = w1.alloc (.cells #[.bool b1, .slice a1 ny c1, .slice e1 ne f1] 31) := ⟨_, rfl⟩
        have DL := Lib.hid (show Rx W2 w1.heap.size 31 b1 (.slice a1 ny c1) (.slice e1 ne f1) by rw [hW2]; exact Rx.new _ _ _ _ _)
        replace DP := Lib.hid (show Rx W2 p 85 _ _ _ by rw [hW2]; exact DP.out.alloc _)
        replace BB := Lib.hid (show Below W0.heap.size W0 W2 by rw [hW2]; exact BB.out.alloc BB.out.size _)
        replace B := Lib.hid (show Below w.heap.size w W2 by rw [hW2]; exact B.out.alloc B.out.size _)
        rw [← hW2]
        clear hW2
        refine (impl_foldLess p w1.heap.size (fun W b v dd => b0 = b ∧ .slice a0 nx c0 = v ∧ .slice e0 nd f0 = dd) b0 a0 nx c0 e0 nd f0 b1 a1 ny c1 e1 ne f1 (limI y) (limI e) W2 DP.out DL.out (by omega) (H1.out.below B.out) E1.out HND.out (fun W hW => ?_)).mono ?_
        · refine (impl_totLess p b0 _ x _ d b1 _ y _ e W (DP.out.below hW) (H0.out.below (B.out.trans (hW.mono B.out.size))) (H1.out.below (B.out.trans (hW.mono B.out.size))) CH.out.1 CH.out.2.1 CH.out.2.2.1 CH.out.2.2.2.1 CH.out.2.2.2.2.1 CH.out.2.2.2.2.2.1 CH.out.2.2.2.2.2.2.1 CH.out.2.2.2.2.2.2.2.1 CH.out.2.2.2.2.2.2.2.2.1 CH.out.2.2.2.2.2.2.2.2.2).mono ?_
          rintro r5 w5 ⟨hq5, hD5, hg5⟩
          simp only [HT.out, if_true, if_false] at hD5
          exact ⟨hq5, ⟨_, _, _, _, _, _, _, hD5, rfl, rfl, rfl⟩, hg5⟩
        rintro r2 w3 ⟨b9, v9, d9, rfl, ⟨w8, q8, b8, v8, d8, ⟨rfl, rfl, rfl⟩, D8, hq8, hw3⟩, g3⟩
        have D9 := (D_r.out.below BB.out).kept g3 (by intro h; injection h with h; have := HP.out; have := SZ.out; omega)
        have B9 := B.out.grown g3 B.out.size (fun k hk => by injection hk with hk; have := HP.out; have := SZ.out; omega)
        have R9 : RowR w3 (.slice a0 nx c0) (limI x) (.slice e0 nd f0) (limI d) := ⟨rowOf_kept (rowOf_below H0.out.1 B.out) DP.out g3, rowOf_kept (rowOf_below H0.out.2 B.out) DP.out g3⟩
        clear hw3 g3 D8
        have L9 := B9.size
        have hcl := impl_cloneR b0 _ x _ d w3 R9 CH.out.1 CH.out.2.1
        go_wp2_with fail
        refine hcl.mono ?_
        rintro r3 w4 ⟨v4, d4, rfl, o4, bw4⟩
        obtain ⟨a4, c4, e4, f4, rfl, rfl⟩ := o4.slices
        replace D9 := D9.below bw4
        replace B9 := B9.trans (bw4.mono B9.size)
        have q0 := D9.c0; have q1 := D9.c1; have q2 := D9.c2; have q3 := D9.f 0; have q4 := D9.f 1; have q5 := D9.f 2
        obtain ⟨e1, e2⟩ := rat_end (b' := b0) B9 D9 (o4.base L9) (by decide) (Nat.le_refl _) (by omega) (.slice a4 (limI x).length c4) (.slice e4 (limI d).length f4)
        have D8 := Rx.set3 (b' := b0) (v' := .slice a4 (limI x).length c4) (d' := .slice e4 (limI d).length f4) D9
        have hc0 := D8.c0; have hc1 := D8.c1; have hc2 := D8.c2
        go_wp2
        exact bodyPost_ret (v := .agg #[.bool b0, .slice a4 (limI x).length c4, .slice e4 (limI d).length f4]) (by simp [results, Try.results51, go_sem, hc0, hc1, hc2]) rfl ⟨_, _, rfl, e1, e2⟩


set_option maxRecDepth 100000 in
set_option maxHeartbeats 2000000 in
theorem impl_ratMax (b0 : Bool) (v0 : Value) (zs0 : List Int) (d0 : Value) (ds0 : List Int) (b1 : Bool) (v1 : Value) (zs1 : List Int) (d1 : Value) (ds1 : List Int) (w : World) (h0 : RowR w v0 zs0 d0 ds0) (h1 : RowR w v1 zs1 d1 ds1) :
    Calls Try.prog 53 #[.agg #[.bool b0, v0, d0], .agg #[.bool b1, v1, d1]] w fun r w' => ∃ v dd, r = .returned (.agg #[.bool (ratMaxB b0 zs0 ds0 b1 zs1 ds1), v, dd]) ∧ OwnR w' w.heap.size v (ratMaxZ b0 zs0 ds0 b1 zs1 ds1) dd (ratMaxD b0 zs0 ds0 b1 zs1 ds1) ∧ Below w.heap.size w w' := by
  cases q0 : ratOk b0 zs0 ds0 with
  | false =>
    have HE := ratMax_no (b1 := b1) (zs1 := zs1) (ds1 := ds1) (.inl q0)
    rw [HE.1, HE.2.1, HE.2.2]
    have E0 := Lib.hid q0
    clear HE q0
    have H0 := Lib.hid h0
    have H1 := Lib.hid h1
    obtain ⟨⟨a0, c0, rfl, z1, z2, z3⟩, ⟨e0, f0, rfl, z4, z5, z6⟩⟩ := h0
    clear z1 z2 z3 z4 z5 z6
    obtain ⟨⟨a1, c1, rfl, z1, z2, z3⟩, ⟨e1, f1, rfl, z4, z5, z6⟩⟩ := h1
    clear z1 z2 z3 z4 z5 z6
    obtain ⟨nx, hnx⟩ : ∃ n, (zs0).length = n := ⟨_, rfl⟩
    rw [hnx] at H0
    try rw [hnx]
    have Nnx := Lib.hid hnx
    clear hnx
    obtain ⟨nd, hnd⟩ : ∃ n, (ds0).length = n := ⟨_, rfl⟩
    rw [hnd] at H0
    try rw [hnd]
    have Nnd := Lib.hid hnd
    clear hnd
    obtain ⟨ny, hny⟩ : ∃ n, (zs1).length = n := ⟨_, rfl⟩
    rw [hny] at H1
    try rw [hny]
    have Nny := Lib.hid hny
    clear hny
    obtain ⟨ne, hne⟩ : ∃ n, (ds1).length = n := ⟨_, rfl⟩
    rw [hne] at H1
    try rw [hne]
    have Nne := Lib.hid hne
    clear hne
    go_enter Try.func53, Try.ntmps53
    go_wp2_with fail
    obtain ⟨W0, hW0⟩ : ∃ x, x = (((w.alloc (.cells #[.bool b0, .slice a0 nx c0, .slice e0 nd f0] 31)).alloc (.cells #[.bool b1, .slice a1 ny c1, .slice e1 ne f1] 31)).alloc (.cells #[.bool false, .slice none 0 0, .slice none 0 0] 31)) := ⟨_, rfl⟩
    have B := Lib.hid (show Below w.heap.size w W0 by rw [hW0]; exact ((((Below.refl _ _).alloc (Nat.le_refl _) _).alloc (by simp) _).alloc (by simp; omega) _))
    have D_x := Lib.hid (rx_at (show Rx W0 _ 31 (b0) (.slice a0 nx c0) (.slice e0 nd f0) by rw [hW0]; exact ((Rx.new _ _ _ _ _).alloc _).alloc _) (show w.heap.size = _ by simp))
    have D_y := Lib.hid (rx_at (show Rx W0 _ 31 (b1) (.slice a1 ny c1) (.slice e1 ne f1) by rw [hW0]; exact (Rx.new _ _ _ _ _).alloc _) (show (w.heap.size + 1) = _ by simp))
    have D_r := Lib.hid (rx_at (show Rx W0 _ 31 (false) (.slice none 0 0) (.slice none 0 0) by rw [hW0]; exact Rx.new _ _ _ _ _) (show (w.heap.size + 1 + 1) = _ by simp))
    have SZ := Lib.hid (show W0.heap.size = w.heap.size + 1 + 1 + 1 by rw [hW0]; simp)
    rw [← hW0]
    clear hW0
    have BB := Lib.hid (Below.refl W0.heap.size W0)
    refine (impl_start_no b0 _ zs0 _ ds0 _ (H0.out.below B.out) E0.out).mono ?_
    rintro e9 w1 ⟨p, rfl, DP, hp, bw1⟩
    have DP := Lib.hid DP
    have HP := Lib.hid (show W0.heap.size ≤ p from hp)
    clear hp
    replace B := Lib.hid (B.out.trans (bw1.mono B.out.size))
    replace BB := Lib.hid (BB.out.trans (bw1.mono BB.out.size))
    clear bw1
    have c0_x := (D_x.out.below BB.out).c0
    have c1_x := (D_x.out.below BB.out).c1
    have c2_x := (D_x.out.below BB.out).c2
    have c0_y := (D_y.out.below BB.out).c0
    have c1_y := (D_y.out.below BB.out).c1
    have c2_y := (D_y.out.below BB.out).c2
    have hmf : ∀ (fn : Fn) (first cap : Array Value) (w : World), (Instr.makeFunc fn first cap).run Try.prog w = .ok (.func fn first cap) w := fun _ _ _ _ => rfl
    go_wp2_with fail
    clear c0_x c1_x c2_x
    clear c0_y c1_y c2_y
    have hpw := DP.out.lt
    obtain ⟨W2, hW2⟩ : ∃ x, x = w1.alloc (.cells #[.bool b1, .slice a1 ny c1, .slice e1 ne f1] 31) := ⟨_, rfl⟩
    have DL := Lib.hid (show Rx W2 w1.heap.size 31 b1 (.slice a1 ny c1) (.slice e1 ne f1) by rw [hW2]; exact Rx.new _ _ _ _ _)
    replace DP := Lib.hid (show Rx W2 p 85 _ _ _ by rw [hW2]; exact DP.out.alloc _)
    replace BB := Lib.hid (show Below W0.heap.size W0 W2 by rw [hW2]; exact BB.out.alloc BB.out.size _)
    replace B := Lib.hid (show Below w.heap.size w W2 by rw [hW2]; exact B.out.alloc B.out.size _)
    rw [← hW2]
    clear hW2
    refine (impl_fold_zero p w1.heap.size _ b1 a1 ny c1 e1 ne f1 W2 DP.out DL.out (by omega)).mono ?_
    rintro r2 w3 ⟨rfl, bw3⟩
    have D9 := D_r.out.below (BB.out.trans (bw3.mono BB.out.size))
    have B9 := B.out.trans (bw3.mono B.out.size)
    have hcl := impl_cloneR false _ 0 _ 0 w3 (show RowR w3 (.slice none 0 0) (limI 0) (.slice none 0 0) (limI 0) by rw [limI_zero]; exact (OwnR.nil w3 0).row) (pw_pos 24) (pw_pos 24)
    rw [limI_zero] at hcl
    go_wp2_with fail
    refine hcl.mono ?_
    rintro r3 w4 ⟨v4, d4, rfl, o4, bw4⟩
    obtain ⟨a4, c4, e4, f4, rfl, rfl⟩ := o4.slices
    replace D9 := D9.below bw4
    replace B9 := B9.trans (bw4.mono B9.size)
    have q0 := D9.c0; have q1 := D9.c1; have q2 := D9.c2; have q3 := D9.f 0; have q4 := D9.f 1; have q5 := D9.f 2
    obtain ⟨e1, e2⟩ := rat_end (b' := false) B9 D9 (OwnR.base (B' := W0.heap.size) o4 (by have := BB.out.size; have := bw3.size; omega)) (by decide) (by have := SZ.out; omega) (by omega) (.slice a4 0 c4) (.slice e4 0 f4)
    have D8 := Rx.set3 (b' := false) (v' := .slice a4 0 c4) (d' := .slice e4 0 f4) D9
    have hc0 := D8.c0; have hc1 := D8.c1; have hc2 := D8.c2
    go_wp2
    exact bodyPost_ret (v := .agg #[.bool false, .slice a4 0 c4, .slice e4 0 f4]) (by simp [results, Try.results53, go_sem, hc0, hc1, hc2]) rfl ⟨_, _, rfl, e1, e2⟩

  | true =>
    cases q1 : ratOk b1 zs1 ds1 with
    | false =>
      have HE := ratMax_no (b0 := b0) (zs0 := zs0) (ds0 := ds0) (.inr q1)
      rw [HE.1, HE.2.1, HE.2.2]
      have E0 := Lib.hid q0
      have E1 := Lib.hid q1
      have HND0 : Hid (0 < ds0.length) := Lib.hid (by obtain ⟨x, d, _, rfl, _, _, h9, _⟩ := ratOk_parts q0; exact (limI_pos d).2 h9)
      clear HE q0 q1
      have H0 := Lib.hid h0
      have H1 := Lib.hid h1
      obtain ⟨⟨a0, c0, rfl, z1, z2, z3⟩, ⟨e0, f0, rfl, z4, z5, z6⟩⟩ := h0
      clear z1 z2 z3 z4 z5 z6
      obtain ⟨⟨a1, c1, rfl, z1, z2, z3⟩, ⟨e1, f1, rfl, z4, z5, z6⟩⟩ := h1
      clear z1 z2 z3 z4 z5 z6
      obtain ⟨nx, hnx⟩ : ∃ n, (zs0).length = n := ⟨_, rfl⟩
      rw [hnx] at H0
      try rw [hnx]
      have Nnx := Lib.hid hnx
      clear hnx
      obtain ⟨nd, hnd⟩ : ∃ n, (ds0).length = n := ⟨_, rfl⟩
      rw [hnd] at H0
      try rw [hnd]
      have Nnd := Lib.hid hnd
      have HND := Lib.hid (show 0 < nd by rw [← hnd]; exact HND0.out)
      clear hnd
      obtain ⟨ny, hny⟩ : ∃ n, (zs1).length = n := ⟨_, rfl⟩
      rw [hny] at H1
      try rw [hny]
      have Nny := Lib.hid hny
      clear hny
      obtain ⟨ne, hne⟩ : ∃ n, (ds1).length = n := ⟨_, rfl⟩
      rw [hne] at H1
      try rw [hne]
      have Nne := Lib.hid hne
      clear hne
      go_enter Try.func53, Try.ntmps53
      go_wp2_with fail
      obtain ⟨W0, hW0⟩ : ∃ x, x = (((w.alloc (.cells #[.bool b0, .slice a0 nx c0, .slice e0 nd f0] 31)).alloc (.cells #[.bool b1, .slice a1 ny c1, .slice e1 ne f1] 31)).alloc (.cells #[.bool false, .slice none 0 0, .slice none 0 0] 31)) := ⟨_, rfl⟩
      have B := Lib.hid (show Below w.heap.size w W0 by rw [hW0]; exact ((((Below.refl _ _).alloc (Nat.le_refl _) _).alloc (by simp) _).alloc (by simp; omega) _))
      have D_x := Lib.hid (rx_at (show Rx W0 _ 31 (b0) (.slice a0 nx c0) (.slice e0 nd f0) by rw [hW0]; exact ((Rx.new _ _ _ _ _).alloc _).alloc _) (show w.heap.size = _ by simp))
      have D_y := Lib.hid (rx_at (show Rx W0 _ 31 (b1) (.slice a1 ny c1) (.slice e1 ne f1) by rw [hW0]; exact (Rx.new _ _ _ _ _).alloc _) (show (w.heap.size + 1) = _ by simp))
      have D_r := Lib.hid (rx_at (show Rx W0 _ 31 (false) (.slice none 0 0) (.slice none 0 0) by rw [hW0]; exact Rx.new _ _ _ _ _) (show (w.heap.size + 1 + 1) = _ by simp))
      have SZ := Lib.hid (show W0.heap.size = w.heap.size + 1 + 1 + 1 by rw [hW0]; simp)
      rw [← hW0]
      clear hW0
      have BB := Lib.hid (Below.refl W0.heap.size W0)
      refine (impl_start_yes b0 _ zs0 _ ds0 _ (H0.out.below B.out) E0.out).mono ?_
      rintro e9 w1 ⟨p, rfl, DP, hp, bw1⟩
      have DP := Lib.hid DP
      have HP := Lib.hid (show W0.heap.size ≤ p from hp)
      clear hp
      replace B := Lib.hid (B.out.trans (bw1.mono B.out.size))
      replace BB := Lib.hid (BB.out.trans (bw1.mono BB.out.size))
      clear bw1
      have c0_x := (D_x.out.below BB.out).c0
      have c1_x := (D_x.out.below BB.out).c1
      have c2_x := (D_x.out.below BB.out).c2
      have c0_y := (D_y.out.below BB.out).c0
      have c1_y := (D_y.out.below BB.out).c1
      have c2_y := (D_y.out.below BB.out).c2
      have hmf : ∀ (fn : Fn) (first cap : Array Value) (w : World), (Instr.makeFunc fn first cap).run Try.prog w = .ok (.func fn first cap) w := fun _ _ _ _ => rfl
      go_wp2_with fail
      clear c0_x c1_x c2_x
      clear c0_y c1_y c2_y
      have hpw := DP.out.lt
      obtain ⟨W2, hW2⟩ : ∃ x, x = w1.alloc (.cells #[.bool b1, .slice a1 ny c1, .slice e1 ne f1] 31) := ⟨_, rfl⟩
      have DL := Lib.hid (show Rx W2 w1.heap.size 31 b1 (.slice a1 ny c1) (.slice e1 ne f1) by rw [hW2]; exact Rx.new _ _ _ _ _)
      replace DP := Lib.hid (show Rx W2 p 85 _ _ _ by rw [hW2]; exact DP.out.alloc _)
      replace BB := Lib.hid (show Below W0.heap.size W0 W2 by rw [hW2]; exact BB.out.alloc BB.out.size _)
      replace B := Lib.hid (show Below w.heap.size w W2 by rw [hW2]; exact B.out.alloc B.out.size _)
      rw [← hW2]
      clear hW2
      refine (impl_fold_bad p w1.heap.size _ b0 a0 nx c0 e0 nd f0 b1 a1 ny c1 e1 ne f1 zs1 ds1 W2 DP.out DL.out (by omega) (H1.out.below B.out) E1.out HND.out).mono ?_
      rintro r2 w3 ⟨rfl, bw3⟩
      have D9 := D_r.out.below (BB.out.trans (bw3.mono BB.out.size))
      have B9 := B.out.trans (bw3.mono B.out.size)
      have hcl := impl_cloneR false _ 0 _ 0 w3 (show RowR w3 (.slice none 0 0) (limI 0) (.slice none 0 0) (limI 0) by rw [limI_zero]; exact (OwnR.nil w3 0).row) (pw_pos 24) (pw_pos 24)
      rw [limI_zero] at hcl
      go_wp2_with fail
      refine hcl.mono ?_
      rintro r3 w4 ⟨v4, d4, rfl, o4, bw4⟩
      obtain ⟨a4, c4, e4, f4, rfl, rfl⟩ := o4.slices
      replace D9 := D9.below bw4
      replace B9 := B9.trans (bw4.mono B9.size)
      have q0 := D9.c0; have q1 := D9.c1; have q2 := D9.c2; have q3 := D9.f 0; have q4 := D9.f 1; have q5 := D9.f 2
      obtain ⟨e1, e2⟩ := rat_end (b' := false) B9 D9 (OwnR.base (B' := W0.heap.size) o4 (by have := BB.out.size; have := bw3.size; omega)) (by decide) (by have := SZ.out; omega) (by omega) (.slice a4 0 c4) (.slice e4 0 f4)
      have D8 := Rx.set3 (b' := false) (v' := .slice a4 0 c4) (d' := .slice e4 0 f4) D9
      have hc0 := D8.c0; have hc1 := D8.c1; have hc2 := D8.c2
      go_wp2
      exact bodyPost_ret (v := .agg #[.bool false, .slice a4 0 c4, .slice e4 0 f4]) (by simp [results, Try.results53, go_sem, hc0, hc1, hc2]) rfl ⟨_, _, rfl, e1, e2⟩

    | true =>
      obtain ⟨x, d, rfl, rfl, hx, hd, hd0, g0, n0⟩ := ratOk_parts q0
      obtain ⟨y, e, rfl, rfl, hy, he, he0, g1, n1⟩ := ratOk_parts q1
      have HE := ratMax_yes q0 q1
      rw [HE.1, HE.2.1, HE.2.2]
      have E0 := Lib.hid q0
      have E1 := Lib.hid q1
      have HND0 : Hid (0 < (limI d).length) := Lib.hid ((limI_pos d).2 hd0)
      have CH := Lib.hid (And.intro hx (And.intro hd (And.intro hy (And.intro he (And.intro hd0 (And.intro he0 (And.intro g0 (And.intro g1 (And.intro n0 n1)))))))))
      clear HE q0 q1 hx hd hy he hd0 he0 g0 g1 n0 n1
      by_cases ht : 0 < sgCmp b1 (y * d) b0 (x * e)
      · have hs : secB false (sgCmp b1 (y * d) b0 (x * e)) = true := by unfold secB; simpa using ht
        have HT := Lib.hid (eq_true ht)
        rw [hs, if_pos rfl, if_pos rfl, if_pos rfl]
        clear ht hs
        have H0 := Lib.hid h0
        have H1 := Lib.hid h1
        obtain ⟨⟨a0, c0, rfl, z1, z2, z3⟩, ⟨e0, f0, rfl, z4, z5, z6⟩⟩ := h0
        clear z1 z2 z3 z4 z5 z6
        obtain ⟨⟨a1, c1, rfl, z1, z2, z3⟩, ⟨e1, f1, rfl, z4, z5, z6⟩⟩ := h1
        clear z1 z2 z3 z4 z5 z6
        obtain ⟨nx, hnx⟩ : ∃ n, ((limI x)).length = n := ⟨_, rfl⟩
        rw [hnx] at H0
        try rw [hnx]
        have Nnx := Lib.hid hnx
        clear hnx
        obtain ⟨nd, hnd⟩ : ∃ n, ((limI d)).length = n := ⟨_, rfl⟩
        rw [hnd] at H0
        try rw [hnd]
        have Nnd := Lib.hid hnd
        have HND := Lib.hid (show 0 < nd by rw [← hnd]; exact HND0.out)
        clear hnd
        obtain ⟨ny, hny⟩ : ∃ n, ((limI y)).length = n := ⟨_, rfl⟩
        rw [hny] at H1
        try rw [hny]
        have Nny := Lib.hid hny
        clear hny
        obtain ⟨ne, hne⟩ : ∃ n, ((limI e)).length = n := ⟨_, rfl⟩
        rw [hne] at H1
        try rw [hne]
        have Nne := Lib.hid hne
        clear hne
        go_enter Try.func53, Try.ntmps53
        go_wp2_with fail
        obtain ⟨W0, hW0⟩ : ∃ x, x = (((w.alloc (.cells #[.bool b0, .slice a0 nx c0, .slice e0 nd f0] 31)).alloc (.cells #[.bool b1, .slice a1 ny c1, .slice e1 ne f1] 31)).alloc (.cells #[.bool false, .slice none 0 0, .slice none 0 0] 31)) := ⟨_, rfl⟩
        have B := Lib.hid (show Below w.heap.size w W0 by rw [hW0]; exact ((((Below.refl _ _).alloc (Nat.le_refl _) _).alloc (by simp) _).alloc (by simp; omega) _))
        have D_x := Lib.hid (rx_at (show Rx W0 _ 31 (b0) (.slice a0 nx c0) (.slice e0 nd f0) by rw [hW0]; exact ((Rx.new _ _ _ _ _).alloc _).alloc _) (show w.heap.size = _ by simp))
        have D_y := Lib.hid (rx_at (show Rx W0 _ 31 (b1) (.slice a1 ny c1) (.slice e1 ne f1) by rw [hW0]; exact (Rx.new _ _ _ _ _).alloc _) (show (w.heap.size + 1) = _ by simp))
        have D_r := Lib.hid (rx_at (show Rx W0 _ 31 (false) (.slice none 0 0) (.slice none 0 0) by rw [hW0]; exact Rx.new _ _ _ _ _) (show (w.heap.size + 1 + 1) = _ by simp))
        have SZ := Lib.hid (show W0.heap.size = w.heap.size + 1 + 1 + 1 by rw [hW0]; simp)
        rw [← hW0]
        clear hW0
        have BB := Lib.hid (Below.refl W0.heap.size W0)
        refine (impl_start_yes b0 _ (limI x) _ (limI d) _ (H0.out.below B.out) E0.out).mono ?_
        rintro e9 w1 ⟨p, rfl, DP, hp, bw1⟩
        have DP := Lib.hid DP
        have HP := Lib.hid (show W0.heap.size ≤ p from hp)
        clear hp
        replace B := Lib.hid (B.out.trans (bw1.mono B.out.size))
        replace BB := Lib.hid (BB.out.trans (bw1.mono BB.out.size))
        clear bw1
        have c0_x := (D_x.out.below BB.out).c0
        have c1_x := (D_x.out.below BB.out).c1
        have c2_x := (D_x.out.below BB.out).c2
        have c0_y := (D_y.out.below BB.out).c0
        have c1_y := (D_y.out.below BB.out).c1
        have c2_y := (D_y.out.below BB.out).c2
        have hmf : ∀ (fn : Fn) (first cap : Array Value) (w : World), (Instr.makeFunc fn first cap).run Try.prog w = .ok (.func fn first cap) w := fun _ _ _ _ => rfl
        go_wp2_with fail
        clear c0_x c1_x c2_x
        clear c0_y c1_y c2_y
        have hpw := DP.out.lt
        obtain ⟨W2, hW2⟩ : ∃ x, x = w1.alloc (.cells #[.bool b1, .slice a1 ny c1, .slice e1 ne f1] 31) := ⟨_, rfl⟩
        have DL := Lib.hid (show Rx W2 w1.heap.size 31 b1 (.slice a1 ny c1) (.slice e1 ne f1) by rw [hW2]; exact Rx.new _ _ _ _ _)
        replace DP := Lib.hid (show Rx W2 p 85 _ _ _ by rw [hW2]; exact DP.out.alloc _)
        replace BB := Lib.hid (show Below W0.heap.size W0 W2 by rw [hW2]; exact BB.out.alloc BB.out.size _)
        replace B := Lib.hid (show Below w.heap.size w W2 by rw [hW2]; exact B.out.alloc B.out.size _)
        rw [← hW2]
        clear hW2
        refine (impl_foldGreater p w1.heap.size (fun W b v dd => b1 = b ∧ .slice a1 ny c1 = v ∧ .slice e1 ne f1 = dd) b0 a0 nx c0 e0 nd f0 b1 a1 ny c1 e1 ne f1 (limI y) (limI e) W2 DP.out DL.out (by omega) (H1.out.below B.out) E1.out HND.out (fun W hW => ?_)).mono ?_
        · refine (impl_totGreater p b0 _ x _ d b1 _ y _ e W (DP.out.below hW) (H0.out.below (B.out.trans (hW.mono B.out.size))) (H1.out.below (B.out.trans (hW.mono B.out.size))) CH.out.1 CH.out.2.1 CH.out.2.2.1 CH.out.2.2.2.1 CH.out.2.2.2.2.1 CH.out.2.2.2.2.2.1 CH.out.2.2.2.2.2.2.1 CH.out.2.2.2.2.2.2.2.1 CH.out.2.2.2.2.2.2.2.2.1 CH.out.2.2.2.2.2.2.2.2.2).mono ?_
          rintro r5 w5 ⟨hq5, hD5, hg5⟩
          simp only [HT.out, if_true, if_false] at hD5
          exact ⟨hq5, ⟨_, _, _, _, _, _, _, hD5, rfl, rfl, rfl⟩, hg5⟩
        rintro r2 w3 ⟨b9, v9, d9, rfl, ⟨w8, q8, b8, v8, d8, ⟨rfl, rfl, rfl⟩, D8, hq8, hw3⟩, g3⟩
        have D9 := (D_r.out.below BB.out).kept g3 (by intro h; injection h with h; have := HP.out; have := SZ.out; omega)
        have B9 := B.out.grown g3 B.out.size (fun k hk => by injection hk with hk; have := HP.out; have := SZ.out; omega)
        have R9 : RowR w3 (.slice a1 ny c1) (limI y) (.slice e1 ne f1) (limI e) := ⟨rowOf_kept (rowOf_below H1.out.1 B.out) DP.out g3, rowOf_kept (rowOf_below H1.out.2 B.out) DP.out g3⟩
        clear hw3 g3 D8
        have L9 := B9.size
        have hcl := impl_cloneR b1 _ y _ e w3 R9 CH.out.2.2.1 CH.out.2.2.2.1
        go_wp2_with fail
        refine hcl.mono ?_
        rintro r3 w4 ⟨v4, d4, rfl, o4, bw4⟩
        obtain ⟨a4, c4, e4, f4, rfl, rfl⟩ := o4.slices
        replace D9 := D9.below bw4
        replace B9 := B9.trans (bw4.mono B9.size)
        have q0 := D9.c0; have q1 := D9.c1; have q2 := D9.c2; have q3 := D9.f 0; have q4 := D9.f 1; have q5 := D9.f 2
        obtain ⟨e1, e2⟩ := rat_end (b' := b1) B9 D9 (o4.base L9) (by decide) (Nat.le_refl _) (by omega) (.slice a4 (limI y).length c4) (.slice e4 (limI e).length f4)
        have D8 := Rx.set3 (b' := b1) (v' := .slice a4 (limI y).length c4) (d' := .slice e4 (limI e).length f4) D9
        have hc0 := D8.c0; have hc1 := D8.c1; have hc2 := D8.c2
        go_wp2
        exact bodyPost_ret (v := .agg #[.bool b1, .slice a4 (limI y).length c4, .slice e4 (limI e).length f4]) (by simp [results, Try.results53, go_sem, hc0, hc1, hc2]) rfl ⟨_, _, rfl, e1, e2⟩

      · have hs : secB false (sgCmp b1 (y * d) b0 (x * e)) = false := by unfold secB; simpa using ht
        have HT := Lib.hid (eq_false ht)
        rw [hs, if_neg (by decide), if_neg (by decide), if_neg (by decide)]
        clear ht hs
        have H0 := Lib.hid h0
        have H1 := Lib.hid h1
        obtain ⟨⟨a0, c0, rfl, z1, z2, z3⟩, ⟨e0, f0, rfl, z4, z5, z6⟩⟩ := h0
        clear z1 z2 z3 z4 z5 z6
        obtain ⟨⟨a1, c1, rfl, z1, z2, z3⟩, ⟨e1, f1, rfl, z4, z5, z6⟩⟩ := h1
        clear z1 z2 z3 z4 z5 z6
        obtain ⟨nx, hnx⟩ : ∃ n, ((limI x)).length = n := ⟨_, rfl⟩
        rw [hnx] at H0
        try rw [hnx]
        have Nnx := Lib.hid hnx
        clear hnx
        obtain ⟨nd, hnd⟩ : ∃ n, ((limI d)).length = n := ⟨_, rfl⟩
        rw [hnd] at H0
        try rw [hnd]
        have Nnd := Lib.hid hnd
        have HND := Lib.hid (show 0 < nd by rw [← hnd]; exact HND0.out)
        clear hnd
        obtain ⟨ny, hny⟩ : ∃ n, ((limI y)).length = n := ⟨_, rfl⟩
        rw [hny] at H1
        try rw [hny]
        have Nny := Lib.hid hny
        clear hny
        obtain ⟨ne, hne⟩ : ∃ n, ((limI e)).length = n := ⟨_, rfl⟩
        rw [hne] at H1
        try rw [hne]
        have Nne := Lib.hid hne
        clear hne
        go_enter Try.func53, Try.ntmps53
        go_wp2_with fail
        obtain ⟨W0, hW0⟩ : ∃ x, x = (((w.alloc (.cells #[.bool b0, .slice a0 nx c0, .slice e0 nd f0] 31)).alloc (.cells #[.bool b1, .slice a1 ny c1, .slice e1 ne f1] 31)).alloc (.cells #[.bool false, .slice none 0 0, .slice none 0 0] 31)) := ⟨_, rfl⟩
        have B := Lib.hid (show Below w.heap.size w W0 by rw [hW0]; exact ((((Below.refl _ _).alloc (Nat.le_refl _) _).alloc (by simp) _).alloc (by simp; omega) _))
        have D_x := Lib.hid (rx_at (show Rx W0 _ 31 (b0) (.slice a0 nx c0) (.slice e0 nd f0) by rw [hW0]; exact ((Rx.new _ _ _ _ _).alloc _).alloc _) (show w.heap.size = _ by simp))
        have D_y := Lib.hid (rx_at (show Rx W0 _ 31 (b1) (.slice a1 ny c1) (.slice e1 ne f1) by rw [hW0]; exact (Rx.new _ _ _ _ _).alloc _) (show (w.heap.size + 1) = _ by simp))
        have D_r := Lib.hid (rx_at (show Rx W0 _ 31 (false) (.slice none 0 0) (.slice none 0 0) by rw [hW0]; exact Rx.new _ _ _ _ _) (show (w.heap.size + 1 + 1) = _ by simp))
        have SZ := Lib.hid (show W0.heap.size = w.heap.size + 1 + 1 + 1 by rw [hW0]; simp)
        rw [← hW0]
        clear hW0
        have BB := Lib.hid (Below.refl W0.heap.size W0)
        refine (impl_start_yes b0 _ (limI x) _ (limI d) _ (H0.out.below B.out) E0.out).mono ?_
        rintro e9 w1 ⟨p, rfl, DP, hp, bw1⟩
        have DP := Lib.hid DP
        have HP := Lib.hid (show W0.heap.size ≤ p from hp)
        clear hp
        replace B := Lib.hid (B.out.trans (bw1.mono B.out.size))
        replace BB := Lib.hid (BB.out.trans (bw1.mono BB.out.size))
        clear bw1
        have c0_x := (D_x.out.below BB.out).c0
        have c1_x := (D_x.out.below BB.out).c1
        have c2_x := (D_x.out.below BB.out).c2
        have c0_y := (D_y.out.below BB.out).c0
        have c1_y := (D_y.out.below BB.out).c1
        have c2_y := (D_y.out.below BB.out).c2
        have hmf : ∀ (fn : Fn) (first cap : Array Value) (w : World), (Instr.makeFunc fn first cap).run Try.prog w = .ok (.func fn first cap) w := fun _ _ _ _ => rfl
        go_wp2_with fail
        clear c0_x c1_x c2_x
        clear c0_y c1_y c2_y
        have hpw := DP.out.lt
        obtain ⟨W2, hW2⟩ : ∃ x, x = w1.alloc (.cells #[.bool b1, .slice a1 ny c1, .slice e1 ne f1] 31) := ⟨_, rfl⟩
        have DL := Lib.hid (show Rx W2 w1.heap.size 31 b1 (.slice a1 ny c1) (.slice e1 ne f1) by rw [hW2]; exact Rx.new _ _ _ _ _)
        replace DP := Lib.hid (show Rx W2 p 85 _ _ _ by rw [hW2]; exact DP.out.alloc _)
        replace BB := Lib.hid (show Below W0.heap.size W0 W2 by rw [hW2]; exact BB.out.alloc BB.out.size _)
        replace B := Lib.hid (show Below w.heap.size w W2 by rw [hW2]; exact B.out.alloc B.out.size _)
        rw [← hW2]
        clear hW2
        refine (impl_foldGreater p w1.heap.size (fun W b v dd => b0 = b ∧ .slice a0 nx c0 = v ∧ .slice e0 nd f0 = dd) b0 a0 nx c0 e0 nd f0 b1 a1 ny c1 e1 ne f1 (limI y) (limI e) W2 DP.out DL.out (by omega) (H1.out.below B.out) E1.out HND.out (fun W hW => ?_)).mono ?_
        · refine (impl_totGreater p b0 _ x _ d b1 _ y _ e W (DP.out.below hW) (H0.out.below (B.out.trans (hW.mono B.out.size))) (H1.out.below (B.out.trans (hW.mono B.out.size))) CH.out.1 CH.out.2.1 CH.out.2.2.1 CH.out.2.2.2.1 CH.out.2.2.2.2.1 CH.out.2.2.2.2.2.1 CH.out.2.2.2.2.2.2.1 CH.out.2.2.2.2.2.2.2.1 CH.out.2.2.2.2.2.2.2.2.1 CH.out.2.2.2.2.2.2.2.2.2).mono ?_
          rintro r5 w5 ⟨hq5, hD5, hg5⟩
          simp only [HT.out, if_true, if_false] at hD5
          exact ⟨hq5, ⟨_, _, _, _, _, _, _, hD5, rfl, rfl, rfl⟩, hg5⟩
        rintro r2 w3 ⟨b9, v9, d9, rfl, ⟨w8, q8, b8, v8, d8, ⟨rfl, rfl, rfl⟩, D8, hq8, hw3⟩, g3⟩
        have D9 := (D_r.out.below BB.out).kept g3 (by intro h; injection h with h; have := HP.out; have := SZ.out; omega)
        have B9 := B.out.grown g3 B.out.size (fun k hk => by injection hk with hk; have := HP.out; have := SZ.out; omega)
        have R9 : RowR w3 (.slice a0 nx c0) (limI x) (.slice e0 nd f0) (limI d) := ⟨rowOf_kept (rowOf_below H0.out.1 B.out) DP.out g3, rowOf_kept (rowOf_below H0.out.2 B.out) DP.out g3⟩
        clear hw3 g3 D8
        have L9 := B9.size
        have hcl := impl_cloneR b0 _ x _ d w3 R9 CH.out.1 CH.out.2.1
        go_wp2_with fail
        refine hcl.mono ?_
        rintro r3 w4 ⟨v4, d4, rfl, o4, bw4⟩
        obtain ⟨a4, c4, e4, f4, rfl, rfl⟩ := o4.slices
        replace D9 := D9.below bw4
        replace B9 := B9.trans (bw4.mono B9.size)
        have q0 := D9.c0; have q1 := D9.c1; have q2 := D9.c2; have q3 := D9.f 0; have q4 := D9.f 1; have q5 := D9.f 2
        obtain ⟨e1, e2⟩ := rat_end (b' := b0) B9 D9 (o4.base L9) (by decide) (Nat.le_refl _) (by omega) (.slice a4 (limI x).length c4) (.slice e4 (limI d).length f4)
        have D8 := Rx.set3 (b' := b0) (v' := .slice a4 (limI x).length c4) (d' := .slice e4 (limI d).length f4) D9
        have hc0 := D8.c0; have hc1 := D8.c1; have hc2 := D8.c2
        go_wp2
        exact bodyPost_ret (v := .agg #[.bool b0, .slice a4 (limI x).length c4, .slice e4 (limI d).length f4]) (by simp [results, Try.results53, go_sem, hc0, hc1, hc2]) rfl ⟨_, _, rfl, e1, e2⟩


end Go.Proofs.Ytgoonbjhfbnaiaa
