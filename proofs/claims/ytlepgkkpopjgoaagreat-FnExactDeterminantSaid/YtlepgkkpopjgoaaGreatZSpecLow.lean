/- A fraction in lowest terms, as the model makes it. -/
import Derived.Test.YtlepgkkpopjgoaaGreatZPre
import Derived.Test.YtlepgkkpopjgoaaGreatZRatAns
import Derived.Test.YtlepgkkpopjgoaaGreatZSigned
namespace Go.Proofs.YtlepgkkpopjgoaaGreat
open Go.RowKit Go.WideShapes Go.ChangeShapes
set_option linter.unusedVariables false
set_option linter.unusedSimpArgs false

theorem lowX_m1 (x : Nat) : lowX x 1 = x ∧ lowD x 1 = 1 := low_id (Nat.gcd_one_right x)
theorem row_limN {w : World} {v : Value} {x : Nat} (h : RowOf iV w v (limI x)) : RowOf iV w v (listF (nlen x) (digF x)) := h
set_option maxRecDepth 100000 in
set_option maxHeartbeats 4000000 in
theorem spec_low (b : Bool) (va : Value) (x : Nat) (vb : Value) (m : Nat) (w : World) (ha : RowOf iV w va (limI x)) (hb : RowOf iV w vb (limI m)) (hx : x < pw 60) (hm : m < pw 60) :
    Calls Tryz.prog 126 #[.bool b, va, vb] w fun r w' => ∃ v dd, r = .returned (.agg #[.bool (mkB b (lowX x m) (lowD x m)), v, dd]) ∧ OwnR w' w.heap.size v (mkZ (lowX x m) (lowD x m)) dd (mkD (lowX x m) (lowD x m)) ∧ Below w.heap.size w w' := by
  have RA_x := Lib.hid ha
  have RA_m := Lib.hid hb
  have B_x := Lib.hid ((nlen_le_iff _ _).2 hx)
  have B_m := Lib.hid ((nlen_le_iff _ _).2 hm)
  clear ha hb hx hm
  by_cases hm0 : m = 0
  · have hk : okS (lowX x m) (lowD x m) = false := by rw [hm0]; unfold lowD; rw [Nat.zero_div]; exact okS_zero _
    rw [(mk_no hk _).1, (mk_no hk false).2.1, (mk_no hk false).2.2]
    clear hk
    have hq : ((nlen m : Int) == 0) = true := by rw [hm0, nlen_zero]; rfl
    clear hm0
    go_enter Tryz.func126, Tryz.ntmps126
    go_wp2_with fail
    obtain ⟨W0, hW0⟩ : ∃ x, x = (w.alloc (.cells #[.bool false, .slice none 0 0, .slice none 0 0] 34)) := ⟨_, rfl⟩
    have B := Lib.hid (show Below w.heap.size w W0 by rw [hW0]; exact ((Below.refl _ _).alloc (Nat.le_refl _) _))
    have D_r := Lib.hid (rx_at (show Rx W0 _ 34 (false) (.slice none 0 0) (.slice none 0 0) by rw [hW0]; exact Rx.new _ _ _ _ _) (show w.heap.size = _ by simp))
    have SZ := Lib.hid (show W0.heap.size = w.heap.size + 1 by rw [hW0]; simp)
    rw [← hW0]
    clear hW0
    have BB := Lib.hid (Below.refl W0.heap.size W0)
    refine (spec_trimR _ x _ W0 (row_limN (rowOf_below RA_x.out B.out)) (Nat.le_refl _)).mono ?_
    rintro r9 w9 ⟨v_x, rfl, hqx, h9⟩
    replace h9 := h9.symm
    subst h9
    have Q_x := Lib.hid hqx
    clear hqx
    go_wp2_with fail
    refine (spec_trimR _ m _ _ (row_limN (rowOf_below RA_m.out B.out)) (Nat.le_refl _)).mono ?_
    rintro r9 w9 ⟨v_m, rfl, hqm, h9⟩
    replace h9 := h9.symm
    subst h9
    obtain ⟨a_m, c_m, rfl⟩ := rowOf_form hqm
    rw [limI_length] at hqm ⊢
    have Q_m := Lib.hid hqm
    clear hqm
    have c0_r := (D_r.out.below BB.out).c0
    have c1_r := (D_r.out.below BB.out).c1
    have c2_r := (D_r.out.below BB.out).c2
    have f0_r := (D_r.out.below BB.out).f 0
    have f1_r := (D_r.out.below BB.out).f 1
    have f2_r := (D_r.out.below BB.out).f 2
    go_wp2
    obtain ⟨e1, e2⟩ := rat_end (b' := false) B.out (D_r.out.below BB.out) (OwnR.nil _ W0.heap.size) (by decide) (by have := SZ.out; omega) (by omega) (.slice none 0 0) (.slice none 0 0)
    have D8 := Rx.set3 (b' := false) (v' := .slice none 0 0) (d' := .slice none 0 0) (D_r.out.below BB.out)
    have hc0 := D8.c0; have hc1 := D8.c1; have hc2 := D8.c2
    exact bodyPost_ret (v := .agg #[.bool false, .slice none 0 0, .slice none 0 0]) (by simp [results, Tryz.results126, go_sem, hc0, hc1, hc2]) rfl ⟨_, _, rfl, e1, e2⟩

  have hm9 : 0 < m := by omega
  have hq : ((nlen m : Int) == 0) = false := by have := (nlen_pos_iff m).2 hm9; simp; omega
  have GP := Lib.hid (gcd_pos' (a := x) hm9)
  have HM := Lib.hid hm9
  have PD := Lib.hid (lowD_pos (a := x) hm9)
  clear hm9 hm0
  have B_g := Lib.hid (gcd_len' GP.out B_x.out B_m.out)
  obtain ⟨XX, hXX⟩ : ∃ X, lowX x m = X := ⟨_, rfl⟩
  obtain ⟨YY, hYY⟩ : ∃ X, lowD x m = X := ⟨_, rfl⟩
  have EX := Lib.hid hXX
  have EY := Lib.hid hYY
  rw [hXX, hYY]
  rw [hYY] at PD
  clear hXX hYY
  by_cases hm1 : m = 1
  · have H1 := Lib.hid (decide_eq_true hm1)
    have TX := Lib.hid (show limI x = limI XX by rw [← EX.out, hm1, (lowX_m1 x).1])
    have TY := Lib.hid (show limI m = limI YY by rw [← EY.out, hm1, (lowX_m1 x).2])
    have TL := Lib.hid (show nlen m = (limI YY).length by rw [← TY.out, limI_length])
    clear hm1
    by_cases hX : XX < pw 24
    rotate_left
    · have hk : okS XX YY = false := okS_no.2 (fun h => hX h.2.1)
      rw [(mk_no hk _).1, (mk_no hk false).2.1, (mk_no hk false).2.2]
      have hn : decide (24 < ((limI XX).length : Int)) = true := by have : ¬ nlen XX ≤ 24 := fun h => hX ((nlen_le_iff _ _).1 h); rw [limI_length]; simp; omega
      clear hk hX
      go_enter Tryz.func126, Tryz.ntmps126
      go_wp2_with fail
      obtain ⟨W0, hW0⟩ : ∃ x, x = (w.alloc (.cells #[.bool false, .slice none 0 0, .slice none 0 0] 34)) := ⟨_, rfl⟩
      have B := Lib.hid (show Below w.heap.size w W0 by rw [hW0]; exact ((Below.refl _ _).alloc (Nat.le_refl _) _))
      have D_r := Lib.hid (rx_at (show Rx W0 _ 34 (false) (.slice none 0 0) (.slice none 0 0) by rw [hW0]; exact Rx.new _ _ _ _ _) (show w.heap.size = _ by simp))
      have SZ := Lib.hid (show W0.heap.size = w.heap.size + 1 by rw [hW0]; simp)
      rw [← hW0]
      clear hW0
      have BB := Lib.hid (Below.refl W0.heap.size W0)
      refine (spec_trimR _ x _ W0 (row_limN (rowOf_below RA_x.out B.out)) (Nat.le_refl _)).mono ?_
      rintro r9 w9 ⟨v_x, rfl, hqx, h9⟩
      replace h9 := h9.symm
      subst h9
      have Q_x := Lib.hid hqx
      clear hqx
      go_wp2_with fail
      refine (spec_trimR _ m _ _ (row_limN (rowOf_below RA_m.out B.out)) (Nat.le_refl _)).mono ?_
      rintro r9 w9 ⟨v_m, rfl, hqm, h9⟩
      replace h9 := h9.symm
      subst h9
      obtain ⟨a_m, c_m, rfl⟩ := rowOf_form hqm
      rw [limI_length] at hqm ⊢
      have Q_m := Lib.hid hqm
      clear hqm
      go_wp2_with fail
      refine (spec_isOne _ m _ Q_m.out).mono ?_
      rw [H1.out]
      rintro r9 w9 ⟨rfl, h9⟩
      replace h9 := h9.symm
      subst h9
      have hqx := Q_x.out
      rw [TX.out] at hqx
      have hqm := Q_m.out
      rw [TY.out] at hqm
      have Q_X := Lib.hid hqx
      have Q_Y := Lib.hid hqm
      clear hqx hqm
      obtain ⟨a_X, c_X, hvX⟩ := rowOf_form Q_X.out
      subst hvX
      try rw [TL.out]
      try rw [TL.out] at Q_Y
      skip
      have c0_r := (D_r.out.below BB.out).c0
      have c1_r := (D_r.out.below BB.out).c1
      have c2_r := (D_r.out.below BB.out).c2
      have f0_r := (D_r.out.below BB.out).f 0
      have f1_r := (D_r.out.below BB.out).f 1
      have f2_r := (D_r.out.below BB.out).f 2
      go_wp2
      obtain ⟨e1, e2⟩ := rat_end (b' := false) B.out (D_r.out.below BB.out) (OwnR.nil _ W0.heap.size) (by decide) (by have := SZ.out; omega) (by omega) (.slice none 0 0) (.slice none 0 0)
      have D8 := Rx.set3 (b' := false) (v' := .slice none 0 0) (d' := .slice none 0 0) (D_r.out.below BB.out)
      have hc0 := D8.c0; have hc1 := D8.c1; have hc2 := D8.c2
      exact bodyPost_ret (v := .agg #[.bool false, .slice none 0 0, .slice none 0 0]) (by simp [results, Tryz.results126, go_sem, hc0, hc1, hc2]) rfl ⟨_, _, rfl, e1, e2⟩

    · have hn : decide (24 < ((limI XX).length : Int)) = false := by have := (nlen_le_iff _ _).2 hX; rw [limI_length]; simp; omega
      by_cases hY : YY < pw 24
      rotate_left
      · have hk : okS XX YY = false := okS_no.2 (fun h => hY h.2.2)
        rw [(mk_no hk _).1, (mk_no hk false).2.1, (mk_no hk false).2.2]
        have hn2 : decide (24 < ((limI YY).length : Int)) = true := by have : ¬ nlen YY ≤ 24 := fun h => hY ((nlen_le_iff _ _).1 h); rw [limI_length]; simp; omega
        clear hk hX hY
        go_enter Tryz.func126, Tryz.ntmps126
        go_wp2_with fail
        obtain ⟨W0, hW0⟩ : ∃ x, x = (w.alloc (.cells #[.bool false, .slice none 0 0, .slice none 0 0] 34)) := ⟨_, rfl⟩
        have B := Lib.hid (show Below w.heap.size w W0 by rw [hW0]; exact ((Below.refl _ _).alloc (Nat.le_refl _) _))
        have D_r := Lib.hid (rx_at (show Rx W0 _ 34 (false) (.slice none 0 0) (.slice none 0 0) by rw [hW0]; exact Rx.new _ _ _ _ _) (show w.heap.size = _ by simp))
        have SZ := Lib.hid (show W0.heap.size = w.heap.size + 1 by rw [hW0]; simp)
        rw [← hW0]
        clear hW0
        have BB := Lib.hid (Below.refl W0.heap.size W0)
        refine (spec_trimR _ x _ W0 (row_limN (rowOf_below RA_x.out B.out)) (Nat.le_refl _)).mono ?_
        rintro r9 w9 ⟨v_x, rfl, hqx, h9⟩
        replace h9 := h9.symm
        subst h9
        have Q_x := Lib.hid hqx
        clear hqx
        go_wp2_with fail
        refine (spec_trimR _ m _ _ (row_limN (rowOf_below RA_m.out B.out)) (Nat.le_refl _)).mono ?_
        rintro r9 w9 ⟨v_m, rfl, hqm, h9⟩
        replace h9 := h9.symm
        subst h9
        obtain ⟨a_m, c_m, rfl⟩ := rowOf_form hqm
        rw [limI_length] at hqm ⊢
        have Q_m := Lib.hid hqm
        clear hqm
        go_wp2_with fail
        refine (spec_isOne _ m _ Q_m.out).mono ?_
        rw [H1.out]
        rintro r9 w9 ⟨rfl, h9⟩
        replace h9 := h9.symm
        subst h9
        have hqx := Q_x.out
        rw [TX.out] at hqx
        have hqm := Q_m.out
        rw [TY.out] at hqm
        have Q_X := Lib.hid hqx
        have Q_Y := Lib.hid hqm
        clear hqx hqm
        obtain ⟨a_X, c_X, hvX⟩ := rowOf_form Q_X.out
        subst hvX
        try rw [TL.out]
        try rw [TL.out] at Q_Y
        skip
        have c0_r := (D_r.out.below BB.out).c0
        have c1_r := (D_r.out.below BB.out).c1
        have c2_r := (D_r.out.below BB.out).c2
        have f0_r := (D_r.out.below BB.out).f 0
        have f1_r := (D_r.out.below BB.out).f 1
        have f2_r := (D_r.out.below BB.out).f 2
        go_wp2
        obtain ⟨e1, e2⟩ := rat_end (b' := false) B.out (D_r.out.below BB.out) (OwnR.nil _ W0.heap.size) (by decide) (by have := SZ.out; omega) (by omega) (.slice none 0 0) (.slice none 0 0)
        have D8 := Rx.set3 (b' := false) (v' := .slice none 0 0) (d' := .slice none 0 0) (D_r.out.below BB.out)
        have hc0 := D8.c0; have hc1 := D8.c1; have hc2 := D8.c2
        exact bodyPost_ret (v := .agg #[.bool false, .slice none 0 0, .slice none 0 0]) (by simp [results, Tryz.results126, go_sem, hc0, hc1, hc2]) rfl ⟨_, _, rfl, e1, e2⟩

      · have hn2 : decide (24 < ((limI YY).length : Int)) = false := by have := (nlen_le_iff _ _).2 hY; rw [limI_length]; simp; omega
        have hk : okS XX YY = true := okS_iff.2 ⟨PD.out, hX, hY⟩
        rw [(mk_yes hk _).1, (mk_yes hk false).2.1, (mk_yes hk false).2.2]
        have KX := Lib.hid hX
        have KY := Lib.hid hY
        clear hk hX hY
        go_enter Tryz.func126, Tryz.ntmps126
        go_wp2_with fail
        obtain ⟨W0, hW0⟩ : ∃ x, x = (w.alloc (.cells #[.bool false, .slice none 0 0, .slice none 0 0] 34)) := ⟨_, rfl⟩
        have B := Lib.hid (show Below w.heap.size w W0 by rw [hW0]; exact ((Below.refl _ _).alloc (Nat.le_refl _) _))
        have D_r := Lib.hid (rx_at (show Rx W0 _ 34 (false) (.slice none 0 0) (.slice none 0 0) by rw [hW0]; exact Rx.new _ _ _ _ _) (show w.heap.size = _ by simp))
        have SZ := Lib.hid (show W0.heap.size = w.heap.size + 1 by rw [hW0]; simp)
        rw [← hW0]
        clear hW0
        have BB := Lib.hid (Below.refl W0.heap.size W0)
        refine (spec_trimR _ x _ W0 (row_limN (rowOf_below RA_x.out B.out)) (Nat.le_refl _)).mono ?_
        rintro r9 w9 ⟨v_x, rfl, hqx, h9⟩
        replace h9 := h9.symm
        subst h9
        have Q_x := Lib.hid hqx
        clear hqx
        go_wp2_with fail
        refine (spec_trimR _ m _ _ (row_limN (rowOf_below RA_m.out B.out)) (Nat.le_refl _)).mono ?_
        rintro r9 w9 ⟨v_m, rfl, hqm, h9⟩
        replace h9 := h9.symm
        subst h9
        obtain ⟨a_m, c_m, rfl⟩ := rowOf_form hqm
        rw [limI_length] at hqm ⊢
        have Q_m := Lib.hid hqm
        clear hqm
        go_wp2_with fail
        refine (spec_isOne _ m _ Q_m.out).mono ?_
        rw [H1.out]
        rintro r9 w9 ⟨rfl, h9⟩
        replace h9 := h9.symm
        subst h9
        have hqx := Q_x.out
        rw [TX.out] at hqx
        have hqm := Q_m.out
        rw [TY.out] at hqm
        have Q_X := Lib.hid hqx
        have Q_Y := Lib.hid hqm
        clear hqx hqm
        obtain ⟨a_X, c_X, hvX⟩ := rowOf_form Q_X.out
        subst hvX
        try rw [TL.out]
        try rw [TL.out] at Q_Y
        skip
        go_wp2_with fail
        refine (spec_makeN b _ XX _ Q_X.out (by have := KX.out; exact Nat.lt_of_lt_of_le this (pw_mono (by omega)))).mono ?_
        rintro e w1 ⟨v_k, rfl, o_k, bw1⟩
        obtain ⟨a_k, c_k, rfl⟩ := o_k.slice
        replace Q_x := Lib.hid (rowOf_below Q_x.out bw1)
        replace Q_m := Lib.hid (rowOf_below Q_m.out bw1)
        replace Q_X := Lib.hid (rowOf_below Q_X.out bw1)
        replace Q_Y := Lib.hid (rowOf_below Q_Y.out bw1)
        have O_k := Lib.hid (o_k.base BB.out.size)
        clear o_k
        replace B := Lib.hid (B.out.trans (bw1.mono B.out.size))
        replace BB := Lib.hid (BB.out.trans (bw1.mono BB.out.size))
        clear bw1
        have hln : ([] : List Int).length + (limI YY).length ≤ 1099511627776 := by have := (nlen_le_iff _ _).2 KY.out; rw [limI_length]; simp; omega
        have HL := Lib.hid (OwnI.lit0 w1)
        have HR2 := Lib.hid (rowOf_below Q_Y.out ((Below.refl _ _).alloc (Nat.le_refl _) (.cells #[] 3)))
        have FIN : Hid (∀ (v' : Value) (wz : World), OwnI wz w1.heap.size v' ([] ++ limI YY) → (w1.alloc (.cells #[] 3)).grownBy wz (some w1.heap.size) → (∃ a c, v' = .slice a (limI YY).length c) ∧ Rx wz w.heap.size 34 false (.slice none 0 0) (.slice none 0 0) ∧ OwnR wz W0.heap.size (.slice a_k (limI XX).length c_k) (limI XX) v' (limI YY) ∧ Below w.heap.size w wz) := fun v' wz h1 hg => by
          rw [List.nil_append] at h1
          have hsz := BB.out.size; have hs0 := SZ.out; have hlt := O_k.out.lt
          refine ⟨h1.slice, ((D_r.out.below BB.out).alloc _).kept hg (fun e => by injection e with e; omega), ⟨(O_k.out.alloc _).other hg (fun g g' e1 e2 e3 => by injection e2 with e2; have := (hlt g e1).2; omega), h1.base hsz, fun g g' e1 e2 e3 => by have := (hlt g e1).2; have := (h1.lt g' e2).1; omega⟩, (B.out.alloc B.out.size _).grown hg (by have := B.out.size; simp; omega) (fun g e => by injection e with e; omega)⟩
        go_wp2_with (at_builtin; refine append_ints rfl _ _ 30 Tryz.underlying30 rfl _ _ _ [] (limI YY) rfl HL.out rfl HR2.out hln (by simp) ?_; intro v2 w2z h1 hg1; obtain ⟨⟨a2, c2, rfl⟩, hD, hO, hB⟩ := FIN.out _ _ h1 hg1; have k0 := hD.c0; have k1 := hD.c1; have k2 := hD.c2; have k3 := hD.f 0; have k4 := hD.f 1; have k5 := hD.f 2; have HD := Lib.hid hD; have HO := Lib.hid hO; have HB := Lib.hid hB; clear hD hO hB h1 hg1)
        obtain ⟨e1, e2⟩ := rat_end (b' := (b && decide (0 < XX))) HB.out HD.out HO.out (by decide) (by have := SZ.out; omega) (Nat.le_refl _) (.slice a_k (limI XX).length c_k) (.slice a2 (limI YY).length c2)
        have D8 := Rx.set3 (b' := (b && decide (0 < XX))) (v' := .slice a_k (limI XX).length c_k) (d' := .slice a2 (limI YY).length c2) HD.out
        have hc0 := D8.c0; have hc1 := D8.c1; have hc2 := D8.c2
        exact bodyPost_ret (v := .agg #[.bool (b && decide (0 < XX)), .slice a_k (limI XX).length c_k, .slice a2 (limI YY).length c2]) (by simp [results, Tryz.results126, go_sem, hc0, hc1, hc2]) rfl ⟨_, _, rfl, e1, e2⟩

  have H1 := Lib.hid (decide_eq_false hm1)
  clear hm1
  by_cases hg1 : Nat.gcd x m = 1
  · have H2 := Lib.hid (decide_eq_true hg1)
    have TX := Lib.hid (show limI x = limI XX by rw [← EX.out, (low_id hg1).1])
    have TY := Lib.hid (show limI m = limI YY by rw [← EY.out, (low_id hg1).2])
    have TL := Lib.hid (show nlen m = (limI YY).length by rw [← TY.out, limI_length])
    clear hg1
    by_cases hX : XX < pw 24
    rotate_left
    · have hk : okS XX YY = false := okS_no.2 (fun h => hX h.2.1)
      rw [(mk_no hk _).1, (mk_no hk false).2.1, (mk_no hk false).2.2]
      have hn : decide (24 < ((limI XX).length : Int)) = true := by have : ¬ nlen XX ≤ 24 := fun h => hX ((nlen_le_iff _ _).1 h); rw [limI_length]; simp; omega
      clear hk hX
      go_enter Tryz.func126, Tryz.ntmps126
      go_wp2_with fail
      obtain ⟨W0, hW0⟩ : ∃ x, x = (w.alloc (.cells #[.bool false, .slice none 0 0, .slice none 0 0] 34)) := ⟨_, rfl⟩
      have B := Lib.hid (show Below w.heap.size w W0 by rw [hW0]; exact ((Below.refl _ _).alloc (Nat.le_refl _) _))
      have D_r := Lib.hid (rx_at (show Rx W0 _ 34 (false) (.slice none 0 0) (.slice none 0 0) by rw [hW0]; exact Rx.new _ _ _ _ _) (show w.heap.size = _ by simp))
      have SZ := Lib.hid (show W0.heap.size = w.heap.size + 1 by rw [hW0]; simp)
      rw [← hW0]
      clear hW0
      have BB := Lib.hid (Below.refl W0.heap.size W0)
      refine (spec_trimR _ x _ W0 (row_limN (rowOf_below RA_x.out B.out)) (Nat.le_refl _)).mono ?_
      rintro r9 w9 ⟨v_x, rfl, hqx, h9⟩
      replace h9 := h9.symm
      subst h9
      have Q_x := Lib.hid hqx
      clear hqx
      go_wp2_with fail
      refine (spec_trimR _ m _ _ (row_limN (rowOf_below RA_m.out B.out)) (Nat.le_refl _)).mono ?_
      rintro r9 w9 ⟨v_m, rfl, hqm, h9⟩
      replace h9 := h9.symm
      subst h9
      obtain ⟨a_m, c_m, rfl⟩ := rowOf_form hqm
      rw [limI_length] at hqm ⊢
      have Q_m := Lib.hid hqm
      clear hqm
      go_wp2_with fail
      refine (spec_isOne _ m _ Q_m.out).mono ?_
      rw [H1.out]
      rintro r9 w9 ⟨rfl, h9⟩
      replace h9 := h9.symm
      subst h9
      go_wp2_with fail
      refine (spec_gcd _ _ x m _ Q_x.out Q_m.out B_x.out B_m.out).mono ?_
      rintro e w1 ⟨v_g, rfl, o_g, bw1⟩
      obtain ⟨a_g, c_g, rfl⟩ := o_g.slice
      replace Q_x := Lib.hid (rowOf_below Q_x.out bw1)
      replace Q_m := Lib.hid (rowOf_below Q_m.out bw1)
      have Q_g := Lib.hid o_g.row
      clear o_g
      replace B := Lib.hid (B.out.trans (bw1.mono B.out.size))
      replace BB := Lib.hid (BB.out.trans (bw1.mono BB.out.size))
      clear bw1
      go_wp2_with fail
      refine (spec_isOne _ (Nat.gcd x m) _ Q_g.out).mono ?_
      rw [H2.out]
      rintro r9 w9 ⟨rfl, h9⟩
      replace h9 := h9.symm
      subst h9
      have hqx := Q_x.out
      rw [TX.out] at hqx
      have hqm := Q_m.out
      rw [TY.out] at hqm
      have Q_X := Lib.hid hqx
      have Q_Y := Lib.hid hqm
      clear hqx hqm
      obtain ⟨a_X, c_X, hvX⟩ := rowOf_form Q_X.out
      subst hvX
      try rw [TL.out]
      try rw [TL.out] at Q_Y
      skip
      have c0_r := (D_r.out.below BB.out).c0
      have c1_r := (D_r.out.below BB.out).c1
      have c2_r := (D_r.out.below BB.out).c2
      have f0_r := (D_r.out.below BB.out).f 0
      have f1_r := (D_r.out.below BB.out).f 1
      have f2_r := (D_r.out.below BB.out).f 2
      go_wp2
      obtain ⟨e1, e2⟩ := rat_end (b' := false) B.out (D_r.out.below BB.out) (OwnR.nil _ W0.heap.size) (by decide) (by have := SZ.out; omega) (by omega) (.slice none 0 0) (.slice none 0 0)
      have D8 := Rx.set3 (b' := false) (v' := .slice none 0 0) (d' := .slice none 0 0) (D_r.out.below BB.out)
      have hc0 := D8.c0; have hc1 := D8.c1; have hc2 := D8.c2
      exact bodyPost_ret (v := .agg #[.bool false, .slice none 0 0, .slice none 0 0]) (by simp [results, Tryz.results126, go_sem, hc0, hc1, hc2]) rfl ⟨_, _, rfl, e1, e2⟩

    · have hn : decide (24 < ((limI XX).length : Int)) = false := by have := (nlen_le_iff _ _).2 hX; rw [limI_length]; simp; omega
      by_cases hY : YY < pw 24
      rotate_left
      · have hk : okS XX YY = false := okS_no.2 (fun h => hY h.2.2)
        rw [(mk_no hk _).1, (mk_no hk false).2.1, (mk_no hk false).2.2]
        have hn2 : decide (24 < ((limI YY).length : Int)) = true := by have : ¬ nlen YY ≤ 24 := fun h => hY ((nlen_le_iff _ _).1 h); rw [limI_length]; simp; omega
        clear hk hX hY
        go_enter Tryz.func126, Tryz.ntmps126
        go_wp2_with fail
        obtain ⟨W0, hW0⟩ : ∃ x, x = (w.alloc (.cells #[.bool false, .slice none 0 0, .slice none 0 0] 34)) := ⟨_, rfl⟩
        have B := Lib.hid (show Below w.heap.size w W0 by rw [hW0]; exact ((Below.refl _ _).alloc (Nat.le_refl _) _))
        have D_r := Lib.hid (rx_at (show Rx W0 _ 34 (false) (.slice none 0 0) (.slice none 0 0) by rw [hW0]; exact Rx.new _ _ _ _ _) (show w.heap.size = _ by simp))
        have SZ := Lib.hid (show W0.heap.size = w.heap.size + 1 by rw [hW0]; simp)
        rw [← hW0]
        clear hW0
        have BB := Lib.hid (Below.refl W0.heap.size W0)
        refine (spec_trimR _ x _ W0 (row_limN (rowOf_below RA_x.out B.out)) (Nat.le_refl _)).mono ?_
        rintro r9 w9 ⟨v_x, rfl, hqx, h9⟩
        replace h9 := h9.symm
        subst h9
        have Q_x := Lib.hid hqx
        clear hqx
        go_wp2_with fail
        refine (spec_trimR _ m _ _ (row_limN (rowOf_below RA_m.out B.out)) (Nat.le_refl _)).mono ?_
        rintro r9 w9 ⟨v_m, rfl, hqm, h9⟩
        replace h9 := h9.symm
        subst h9
        obtain ⟨a_m, c_m, rfl⟩ := rowOf_form hqm
        rw [limI_length] at hqm ⊢
        have Q_m := Lib.hid hqm
        clear hqm
        go_wp2_with fail
        refine (spec_isOne _ m _ Q_m.out).mono ?_
        rw [H1.out]
        rintro r9 w9 ⟨rfl, h9⟩
        replace h9 := h9.symm
        subst h9
        go_wp2_with fail
        refine (spec_gcd _ _ x m _ Q_x.out Q_m.out B_x.out B_m.out).mono ?_
        rintro e w1 ⟨v_g, rfl, o_g, bw1⟩
        obtain ⟨a_g, c_g, rfl⟩ := o_g.slice
        replace Q_x := Lib.hid (rowOf_below Q_x.out bw1)
        replace Q_m := Lib.hid (rowOf_below Q_m.out bw1)
        have Q_g := Lib.hid o_g.row
        clear o_g
        replace B := Lib.hid (B.out.trans (bw1.mono B.out.size))
        replace BB := Lib.hid (BB.out.trans (bw1.mono BB.out.size))
        clear bw1
        go_wp2_with fail
        refine (spec_isOne _ (Nat.gcd x m) _ Q_g.out).mono ?_
        rw [H2.out]
        rintro r9 w9 ⟨rfl, h9⟩
        replace h9 := h9.symm
        subst h9
        have hqx := Q_x.out
        rw [TX.out] at hqx
        have hqm := Q_m.out
        rw [TY.out] at hqm
        have Q_X := Lib.hid hqx
        have Q_Y := Lib.hid hqm
        clear hqx hqm
        obtain ⟨a_X, c_X, hvX⟩ := rowOf_form Q_X.out
        subst hvX
        try rw [TL.out]
        try rw [TL.out] at Q_Y
        skip
        have c0_r := (D_r.out.below BB.out).c0
        have c1_r := (D_r.out.below BB.out).c1
        have c2_r := (D_r.out.below BB.out).c2
        have f0_r := (D_r.out.below BB.out).f 0
        have f1_r := (D_r.out.below BB.out).f 1
        have f2_r := (D_r.out.below BB.out).f 2
        go_wp2
        obtain ⟨e1, e2⟩ := rat_end (b' := false) B.out (D_r.out.below BB.out) (OwnR.nil _ W0.heap.size) (by decide) (by have := SZ.out; omega) (by omega) (.slice none 0 0) (.slice none 0 0)
        have D8 := Rx.set3 (b' := false) (v' := .slice none 0 0) (d' := .slice none 0 0) (D_r.out.below BB.out)
        have hc0 := D8.c0; have hc1 := D8.c1; have hc2 := D8.c2
        exact bodyPost_ret (v := .agg #[.bool false, .slice none 0 0, .slice none 0 0]) (by simp [results, Tryz.results126, go_sem, hc0, hc1, hc2]) rfl ⟨_, _, rfl, e1, e2⟩

      · have hn2 : decide (24 < ((limI YY).length : Int)) = false := by have := (nlen_le_iff _ _).2 hY; rw [limI_length]; simp; omega
        have hk : okS XX YY = true := okS_iff.2 ⟨PD.out, hX, hY⟩
        rw [(mk_yes hk _).1, (mk_yes hk false).2.1, (mk_yes hk false).2.2]
        have KX := Lib.hid hX
        have KY := Lib.hid hY
        clear hk hX hY
        go_enter Tryz.func126, Tryz.ntmps126
        go_wp2_with fail
        obtain ⟨W0, hW0⟩ : ∃ x, x = (w.alloc (.cells #[.bool false, .slice none 0 0, .slice none 0 0] 34)) := ⟨_, rfl⟩
        have B := Lib.hid (show Below w.heap.size w W0 by rw [hW0]; exact ((Below.refl _ _).alloc (Nat.le_refl _) _))
        have D_r := Lib.hid (rx_at (show Rx W0 _ 34 (false) (.slice none 0 0) (.slice none 0 0) by rw [hW0]; exact Rx.new _ _ _ _ _) (show w.heap.size = _ by simp))
        have SZ := Lib.hid (show W0.heap.size = w.heap.size + 1 by rw [hW0]; simp)
        rw [← hW0]
        clear hW0
        have BB := Lib.hid (Below.refl W0.heap.size W0)
        refine (spec_trimR _ x _ W0 (row_limN (rowOf_below RA_x.out B.out)) (Nat.le_refl _)).mono ?_
        rintro r9 w9 ⟨v_x, rfl, hqx, h9⟩
        replace h9 := h9.symm
        subst h9
        have Q_x := Lib.hid hqx
        clear hqx
        go_wp2_with fail
        refine (spec_trimR _ m _ _ (row_limN (rowOf_below RA_m.out B.out)) (Nat.le_refl _)).mono ?_
        rintro r9 w9 ⟨v_m, rfl, hqm, h9⟩
        replace h9 := h9.symm
        subst h9
        obtain ⟨a_m, c_m, rfl⟩ := rowOf_form hqm
        rw [limI_length] at hqm ⊢
        have Q_m := Lib.hid hqm
        clear hqm
        go_wp2_with fail
        refine (spec_isOne _ m _ Q_m.out).mono ?_
        rw [H1.out]
        rintro r9 w9 ⟨rfl, h9⟩
        replace h9 := h9.symm
        subst h9
        go_wp2_with fail
        refine (spec_gcd _ _ x m _ Q_x.out Q_m.out B_x.out B_m.out).mono ?_
        rintro e w1 ⟨v_g, rfl, o_g, bw1⟩
        obtain ⟨a_g, c_g, rfl⟩ := o_g.slice
        replace Q_x := Lib.hid (rowOf_below Q_x.out bw1)
        replace Q_m := Lib.hid (rowOf_below Q_m.out bw1)
        have Q_g := Lib.hid o_g.row
        clear o_g
        replace B := Lib.hid (B.out.trans (bw1.mono B.out.size))
        replace BB := Lib.hid (BB.out.trans (bw1.mono BB.out.size))
        clear bw1
        go_wp2_with fail
        refine (spec_isOne _ (Nat.gcd x m) _ Q_g.out).mono ?_
        rw [H2.out]
        rintro r9 w9 ⟨rfl, h9⟩
        replace h9 := h9.symm
        subst h9
        have hqx := Q_x.out
        rw [TX.out] at hqx
        have hqm := Q_m.out
        rw [TY.out] at hqm
        have Q_X := Lib.hid hqx
        have Q_Y := Lib.hid hqm
        clear hqx hqm
        obtain ⟨a_X, c_X, hvX⟩ := rowOf_form Q_X.out
        subst hvX
        try rw [TL.out]
        try rw [TL.out] at Q_Y
        skip
        go_wp2_with fail
        refine (spec_makeN b _ XX _ Q_X.out (by have := KX.out; exact Nat.lt_of_lt_of_le this (pw_mono (by omega)))).mono ?_
        rintro e w2 ⟨v_k, rfl, o_k, bw2⟩
        obtain ⟨a_k, c_k, rfl⟩ := o_k.slice
        replace Q_x := Lib.hid (rowOf_below Q_x.out bw2)
        replace Q_m := Lib.hid (rowOf_below Q_m.out bw2)
        replace Q_g := Lib.hid (rowOf_below Q_g.out bw2)
        replace Q_X := Lib.hid (rowOf_below Q_X.out bw2)
        replace Q_Y := Lib.hid (rowOf_below Q_Y.out bw2)
        have O_k := Lib.hid (o_k.base BB.out.size)
        clear o_k
        replace B := Lib.hid (B.out.trans (bw2.mono B.out.size))
        replace BB := Lib.hid (BB.out.trans (bw2.mono BB.out.size))
        clear bw2
        have hln : ([] : List Int).length + (limI YY).length ≤ 1099511627776 := by have := (nlen_le_iff _ _).2 KY.out; rw [limI_length]; simp; omega
        have HL := Lib.hid (OwnI.lit0 w2)
        have HR2 := Lib.hid (rowOf_below Q_Y.out ((Below.refl _ _).alloc (Nat.le_refl _) (.cells #[] 3)))
        have FIN : Hid (∀ (v' : Value) (wz : World), OwnI wz w2.heap.size v' ([] ++ limI YY) → (w2.alloc (.cells #[] 3)).grownBy wz (some w2.heap.size) → (∃ a c, v' = .slice a (limI YY).length c) ∧ Rx wz w.heap.size 34 false (.slice none 0 0) (.slice none 0 0) ∧ OwnR wz W0.heap.size (.slice a_k (limI XX).length c_k) (limI XX) v' (limI YY) ∧ Below w.heap.size w wz) := fun v' wz h1 hg => by
          rw [List.nil_append] at h1
          have hsz := BB.out.size; have hs0 := SZ.out; have hlt := O_k.out.lt
          refine ⟨h1.slice, ((D_r.out.below BB.out).alloc _).kept hg (fun e => by injection e with e; omega), ⟨(O_k.out.alloc _).other hg (fun g g' e1 e2 e3 => by injection e2 with e2; have := (hlt g e1).2; omega), h1.base hsz, fun g g' e1 e2 e3 => by have := (hlt g e1).2; have := (h1.lt g' e2).1; omega⟩, (B.out.alloc B.out.size _).grown hg (by have := B.out.size; simp; omega) (fun g e => by injection e with e; omega)⟩
        go_wp2_with (at_builtin; refine append_ints rfl _ _ 30 Tryz.underlying30 rfl _ _ _ [] (limI YY) rfl HL.out rfl HR2.out hln (by simp) ?_; intro v2 w2z h1 hg1; obtain ⟨⟨a2, c2, rfl⟩, hD, hO, hB⟩ := FIN.out _ _ h1 hg1; have k0 := hD.c0; have k1 := hD.c1; have k2 := hD.c2; have k3 := hD.f 0; have k4 := hD.f 1; have k5 := hD.f 2; have HD := Lib.hid hD; have HO := Lib.hid hO; have HB := Lib.hid hB; clear hD hO hB h1 hg1)
        obtain ⟨e1, e2⟩ := rat_end (b' := (b && decide (0 < XX))) HB.out HD.out HO.out (by decide) (by have := SZ.out; omega) (Nat.le_refl _) (.slice a_k (limI XX).length c_k) (.slice a2 (limI YY).length c2)
        have D8 := Rx.set3 (b' := (b && decide (0 < XX))) (v' := .slice a_k (limI XX).length c_k) (d' := .slice a2 (limI YY).length c2) HD.out
        have hc0 := D8.c0; have hc1 := D8.c1; have hc2 := D8.c2
        exact bodyPost_ret (v := .agg #[.bool (b && decide (0 < XX)), .slice a_k (limI XX).length c_k, .slice a2 (limI YY).length c2]) (by simp [results, Tryz.results126, go_sem, hc0, hc1, hc2]) rfl ⟨_, _, rfl, e1, e2⟩

  have H2 := Lib.hid (decide_eq_false hg1)
  clear hg1
  by_cases hX : XX < pw 24
  rotate_left
  · have hk : okS XX YY = false := okS_no.2 (fun h => hX h.2.1)
    rw [(mk_no hk _).1, (mk_no hk false).2.1, (mk_no hk false).2.2]
    have hn : decide (24 < ((limI XX).length : Int)) = true := by have : ¬ nlen XX ≤ 24 := fun h => hX ((nlen_le_iff _ _).1 h); rw [limI_length]; simp; omega
    clear hk hX
    go_enter Tryz.func126, Tryz.ntmps126
    go_wp2_with fail
    obtain ⟨W0, hW0⟩ : ∃ x, x = (w.alloc (.cells #[.bool false, .slice none 0 0, .slice none 0 0] 34)) := ⟨_, rfl⟩
    have B := Lib.hid (show Below w.heap.size w W0 by rw [hW0]; exact ((Below.refl _ _).alloc (Nat.le_refl _) _))
    have D_r := Lib.hid (rx_at (show Rx W0 _ 34 (false) (.slice none 0 0) (.slice none 0 0) by rw [hW0]; exact Rx.new _ _ _ _ _) (show w.heap.size = _ by simp))
    have SZ := Lib.hid (show W0.heap.size = w.heap.size + 1 by rw [hW0]; simp)
    rw [← hW0]
    clear hW0
    have BB := Lib.hid (Below.refl W0.heap.size W0)
    refine (spec_trimR _ x _ W0 (row_limN (rowOf_below RA_x.out B.out)) (Nat.le_refl _)).mono ?_
    rintro r9 w9 ⟨v_x, rfl, hqx, h9⟩
    replace h9 := h9.symm
    subst h9
    have Q_x := Lib.hid hqx
    clear hqx
    go_wp2_with fail
    refine (spec_trimR _ m _ _ (row_limN (rowOf_below RA_m.out B.out)) (Nat.le_refl _)).mono ?_
    rintro r9 w9 ⟨v_m, rfl, hqm, h9⟩
    replace h9 := h9.symm
    subst h9
    obtain ⟨a_m, c_m, rfl⟩ := rowOf_form hqm
    rw [limI_length] at hqm ⊢
    have Q_m := Lib.hid hqm
    clear hqm
    go_wp2_with fail
    refine (spec_isOne _ m _ Q_m.out).mono ?_
    rw [H1.out]
    rintro r9 w9 ⟨rfl, h9⟩
    replace h9 := h9.symm
    subst h9
    go_wp2_with fail
    refine (spec_gcd _ _ x m _ Q_x.out Q_m.out B_x.out B_m.out).mono ?_
    rintro e w1 ⟨v_g, rfl, o_g, bw1⟩
    obtain ⟨a_g, c_g, rfl⟩ := o_g.slice
    replace Q_x := Lib.hid (rowOf_below Q_x.out bw1)
    replace Q_m := Lib.hid (rowOf_below Q_m.out bw1)
    have Q_g := Lib.hid o_g.row
    clear o_g
    replace B := Lib.hid (B.out.trans (bw1.mono B.out.size))
    replace BB := Lib.hid (BB.out.trans (bw1.mono BB.out.size))
    clear bw1
    go_wp2_with fail
    refine (spec_isOne _ (Nat.gcd x m) _ Q_g.out).mono ?_
    rw [H2.out]
    rintro r9 w9 ⟨rfl, h9⟩
    replace h9 := h9.symm
    subst h9
    go_wp2_with fail
    refine (spec_div _ _ x (Nat.gcd x m) _ Q_x.out Q_g.out GP.out (by have := B_x.out; omega) (by have := B_g.out; omega)).mono ?_
    rintro e w2 ⟨v_X, v_u, rfl, o_X, o_u, ap, bw2⟩
    obtain ⟨a_X, c_X, rfl⟩ := o_X.slice
    clear o_u ap
    rw [show x / Nat.gcd x m = XX from EX.out] at *
    replace Q_x := Lib.hid (rowOf_below Q_x.out bw2)
    replace Q_m := Lib.hid (rowOf_below Q_m.out bw2)
    replace Q_g := Lib.hid (rowOf_below Q_g.out bw2)
    have Q_X := Lib.hid o_X.row
    clear o_X
    replace B := Lib.hid (B.out.trans (bw2.mono B.out.size))
    replace BB := Lib.hid (BB.out.trans (bw2.mono BB.out.size))
    clear bw2
    go_wp2_with fail
    refine (spec_div _ _ m (Nat.gcd x m) _ Q_m.out Q_g.out GP.out (by have := B_m.out; omega) (by have := B_g.out; omega)).mono ?_
    rintro e w3 ⟨v_Y, v_u, rfl, o_Y, o_u, ap, bw3⟩
    obtain ⟨a_Y, c_Y, rfl⟩ := o_Y.slice
    clear o_u ap
    rw [show m / Nat.gcd x m = YY from EY.out] at *
    replace Q_x := Lib.hid (rowOf_below Q_x.out bw3)
    replace Q_m := Lib.hid (rowOf_below Q_m.out bw3)
    replace Q_g := Lib.hid (rowOf_below Q_g.out bw3)
    replace Q_X := Lib.hid (rowOf_below Q_X.out bw3)
    have Q_Y := Lib.hid o_Y.row
    clear o_Y
    replace B := Lib.hid (B.out.trans (bw3.mono B.out.size))
    replace BB := Lib.hid (BB.out.trans (bw3.mono BB.out.size))
    clear bw3
    skip
    have c0_r := (D_r.out.below BB.out).c0
    have c1_r := (D_r.out.below BB.out).c1
    have c2_r := (D_r.out.below BB.out).c2
    have f0_r := (D_r.out.below BB.out).f 0
    have f1_r := (D_r.out.below BB.out).f 1
    have f2_r := (D_r.out.below BB.out).f 2
    go_wp2
    obtain ⟨e1, e2⟩ := rat_end (b' := false) B.out (D_r.out.below BB.out) (OwnR.nil _ W0.heap.size) (by decide) (by have := SZ.out; omega) (by omega) (.slice none 0 0) (.slice none 0 0)
    have D8 := Rx.set3 (b' := false) (v' := .slice none 0 0) (d' := .slice none 0 0) (D_r.out.below BB.out)
    have hc0 := D8.c0; have hc1 := D8.c1; have hc2 := D8.c2
    exact bodyPost_ret (v := .agg #[.bool false, .slice none 0 0, .slice none 0 0]) (by simp [results, Tryz.results126, go_sem, hc0, hc1, hc2]) rfl ⟨_, _, rfl, e1, e2⟩

  · have hn : decide (24 < ((limI XX).length : Int)) = false := by have := (nlen_le_iff _ _).2 hX; rw [limI_length]; simp; omega
    by_cases hY : YY < pw 24
    rotate_left
    · have hk : okS XX YY = false := okS_no.2 (fun h => hY h.2.2)
      rw [(mk_no hk _).1, (mk_no hk false).2.1, (mk_no hk false).2.2]
      have hn2 : decide (24 < ((limI YY).length : Int)) = true := by have : ¬ nlen YY ≤ 24 := fun h => hY ((nlen_le_iff _ _).1 h); rw [limI_length]; simp; omega
      clear hk hX hY
      go_enter Tryz.func126, Tryz.ntmps126
      go_wp2_with fail
      obtain ⟨W0, hW0⟩ : ∃ x, x = (w.alloc (.cells #[.bool false, .slice none 0 0, .slice none 0 0] 34)) := ⟨_, rfl⟩
      have B := Lib.hid (show Below w.heap.size w W0 by rw [hW0]; exact ((Below.refl _ _).alloc (Nat.le_refl _) _))
      have D_r := Lib.hid (rx_at (show Rx W0 _ 34 (false) (.slice none 0 0) (.slice none 0 0) by rw [hW0]; exact Rx.new _ _ _ _ _) (show w.heap.size = _ by simp))
      have SZ := Lib.hid (show W0.heap.size = w.heap.size + 1 by rw [hW0]; simp)
      rw [← hW0]
      clear hW0
      have BB := Lib.hid (Below.refl W0.heap.size W0)
      refine (spec_trimR _ x _ W0 (row_limN (rowOf_below RA_x.out B.out)) (Nat.le_refl _)).mono ?_
      rintro r9 w9 ⟨v_x, rfl, hqx, h9⟩
      replace h9 := h9.symm
      subst h9
      have Q_x := Lib.hid hqx
      clear hqx
      go_wp2_with fail
      refine (spec_trimR _ m _ _ (row_limN (rowOf_below RA_m.out B.out)) (Nat.le_refl _)).mono ?_
      rintro r9 w9 ⟨v_m, rfl, hqm, h9⟩
      replace h9 := h9.symm
      subst h9
      obtain ⟨a_m, c_m, rfl⟩ := rowOf_form hqm
      rw [limI_length] at hqm ⊢
      have Q_m := Lib.hid hqm
      clear hqm
      go_wp2_with fail
      refine (spec_isOne _ m _ Q_m.out).mono ?_
      rw [H1.out]
      rintro r9 w9 ⟨rfl, h9⟩
      replace h9 := h9.symm
      subst h9
      go_wp2_with fail
      refine (spec_gcd _ _ x m _ Q_x.out Q_m.out B_x.out B_m.out).mono ?_
      rintro e w1 ⟨v_g, rfl, o_g, bw1⟩
      obtain ⟨a_g, c_g, rfl⟩ := o_g.slice
      replace Q_x := Lib.hid (rowOf_below Q_x.out bw1)
      replace Q_m := Lib.hid (rowOf_below Q_m.out bw1)
      have Q_g := Lib.hid o_g.row
      clear o_g
      replace B := Lib.hid (B.out.trans (bw1.mono B.out.size))
      replace BB := Lib.hid (BB.out.trans (bw1.mono BB.out.size))
      clear bw1
      go_wp2_with fail
      refine (spec_isOne _ (Nat.gcd x m) _ Q_g.out).mono ?_
      rw [H2.out]
      rintro r9 w9 ⟨rfl, h9⟩
      replace h9 := h9.symm
      subst h9
      go_wp2_with fail
      refine (spec_div _ _ x (Nat.gcd x m) _ Q_x.out Q_g.out GP.out (by have := B_x.out; omega) (by have := B_g.out; omega)).mono ?_
      rintro e w2 ⟨v_X, v_u, rfl, o_X, o_u, ap, bw2⟩
      obtain ⟨a_X, c_X, rfl⟩ := o_X.slice
      clear o_u ap
      rw [show x / Nat.gcd x m = XX from EX.out] at *
      replace Q_x := Lib.hid (rowOf_below Q_x.out bw2)
      replace Q_m := Lib.hid (rowOf_below Q_m.out bw2)
      replace Q_g := Lib.hid (rowOf_below Q_g.out bw2)
      have Q_X := Lib.hid o_X.row
      clear o_X
      replace B := Lib.hid (B.out.trans (bw2.mono B.out.size))
      replace BB := Lib.hid (BB.out.trans (bw2.mono BB.out.size))
      clear bw2
      go_wp2_with fail
      refine (spec_div _ _ m (Nat.gcd x m) _ Q_m.out Q_g.out GP.out (by have := B_m.out; omega) (by have := B_g.out; omega)).mono ?_
      rintro e w3 ⟨v_Y, v_u, rfl, o_Y, o_u, ap, bw3⟩
      obtain ⟨a_Y, c_Y, rfl⟩ := o_Y.slice
      clear o_u ap
      rw [show m / Nat.gcd x m = YY from EY.out] at *
      replace Q_x := Lib.hid (rowOf_below Q_x.out bw3)
      replace Q_m := Lib.hid (rowOf_below Q_m.out bw3)
      replace Q_g := Lib.hid (rowOf_below Q_g.out bw3)
      replace Q_X := Lib.hid (rowOf_below Q_X.out bw3)
      have Q_Y := Lib.hid o_Y.row
      clear o_Y
      replace B := Lib.hid (B.out.trans (bw3.mono B.out.size))
      replace BB := Lib.hid (BB.out.trans (bw3.mono BB.out.size))
      clear bw3
      skip
      have c0_r := (D_r.out.below BB.out).c0
      have c1_r := (D_r.out.below BB.out).c1
      have c2_r := (D_r.out.below BB.out).c2
      have f0_r := (D_r.out.below BB.out).f 0
      have f1_r := (D_r.out.below BB.out).f 1
      have f2_r := (D_r.out.below BB.out).f 2
      go_wp2
      obtain ⟨e1, e2⟩ := rat_end (b' := false) B.out (D_r.out.below BB.out) (OwnR.nil _ W0.heap.size) (by decide) (by have := SZ.out; omega) (by omega) (.slice none 0 0) (.slice none 0 0)
      have D8 := Rx.set3 (b' := false) (v' := .slice none 0 0) (d' := .slice none 0 0) (D_r.out.below BB.out)
      have hc0 := D8.c0; have hc1 := D8.c1; have hc2 := D8.c2
      exact bodyPost_ret (v := .agg #[.bool false, .slice none 0 0, .slice none 0 0]) (by simp [results, Tryz.results126, go_sem, hc0, hc1, hc2]) rfl ⟨_, _, rfl, e1, e2⟩

    · have hn2 : decide (24 < ((limI YY).length : Int)) = false := by have := (nlen_le_iff _ _).2 hY; rw [limI_length]; simp; omega
      have hk : okS XX YY = true := okS_iff.2 ⟨PD.out, hX, hY⟩
      rw [(mk_yes hk _).1, (mk_yes hk false).2.1, (mk_yes hk false).2.2]
      have KX := Lib.hid hX
      have KY := Lib.hid hY
      clear hk hX hY
      go_enter Tryz.func126, Tryz.ntmps126
      go_wp2_with fail
      obtain ⟨W0, hW0⟩ : ∃ x, x = (w.alloc (.cells #[.bool false, .slice none 0 0, .slice none 0 0] 34)) := ⟨_, rfl⟩
      have B := Lib.hid (show Below w.heap.size w W0 by rw [hW0]; exact ((Below.refl _ _).alloc (Nat.le_refl _) _))
      have D_r := Lib.hid (rx_at (show Rx W0 _ 34 (false) (.slice none 0 0) (.slice none 0 0) by rw [hW0]; exact Rx.new _ _ _ _ _) (show w.heap.size = _ by simp))
      have SZ := Lib.hid (show W0.heap.size = w.heap.size + 1 by rw [hW0]; simp)
      rw [← hW0]
      clear hW0
      have BB := Lib.hid (Below.refl W0.heap.size W0)
      refine (spec_trimR _ x _ W0 (row_limN (rowOf_below RA_x.out B.out)) (Nat.le_refl _)).mono ?_
      rintro r9 w9 ⟨v_x, rfl, hqx, h9⟩
      replace h9 := h9.symm
      subst h9
      have Q_x := Lib.hid hqx
      clear hqx
      go_wp2_with fail
      refine (spec_trimR _ m _ _ (row_limN (rowOf_below RA_m.out B.out)) (Nat.le_refl _)).mono ?_
      rintro r9 w9 ⟨v_m, rfl, hqm, h9⟩
      replace h9 := h9.symm
      subst h9
      obtain ⟨a_m, c_m, rfl⟩ := rowOf_form hqm
      rw [limI_length] at hqm ⊢
      have Q_m := Lib.hid hqm
      clear hqm
      go_wp2_with fail
      refine (spec_isOne _ m _ Q_m.out).mono ?_
      rw [H1.out]
      rintro r9 w9 ⟨rfl, h9⟩
      replace h9 := h9.symm
      subst h9
      go_wp2_with fail
      refine (spec_gcd _ _ x m _ Q_x.out Q_m.out B_x.out B_m.out).mono ?_
      rintro e w1 ⟨v_g, rfl, o_g, bw1⟩
      obtain ⟨a_g, c_g, rfl⟩ := o_g.slice
      replace Q_x := Lib.hid (rowOf_below Q_x.out bw1)
      replace Q_m := Lib.hid (rowOf_below Q_m.out bw1)
      have Q_g := Lib.hid o_g.row
      clear o_g
      replace B := Lib.hid (B.out.trans (bw1.mono B.out.size))
      replace BB := Lib.hid (BB.out.trans (bw1.mono BB.out.size))
      clear bw1
      go_wp2_with fail
      refine (spec_isOne _ (Nat.gcd x m) _ Q_g.out).mono ?_
      rw [H2.out]
      rintro r9 w9 ⟨rfl, h9⟩
      replace h9 := h9.symm
      subst h9
      go_wp2_with fail
      refine (spec_div _ _ x (Nat.gcd x m) _ Q_x.out Q_g.out GP.out (by have := B_x.out; omega) (by have := B_g.out; omega)).mono ?_
      rintro e w2 ⟨v_X, v_u, rfl, o_X, o_u, ap, bw2⟩
      obtain ⟨a_X, c_X, rfl⟩ := o_X.slice
      clear o_u ap
      rw [show x / Nat.gcd x m = XX from EX.out] at *
      replace Q_x := Lib.hid (rowOf_below Q_x.out bw2)
      replace Q_m := Lib.hid (rowOf_below Q_m.out bw2)
      replace Q_g := Lib.hid (rowOf_below Q_g.out bw2)
      have Q_X := Lib.hid o_X.row
      clear o_X
      replace B := Lib.hid (B.out.trans (bw2.mono B.out.size))
      replace BB := Lib.hid (BB.out.trans (bw2.mono BB.out.size))
      clear bw2
      go_wp2_with fail
      refine (spec_div _ _ m (Nat.gcd x m) _ Q_m.out Q_g.out GP.out (by have := B_m.out; omega) (by have := B_g.out; omega)).mono ?_
      rintro e w3 ⟨v_Y, v_u, rfl, o_Y, o_u, ap, bw3⟩
      obtain ⟨a_Y, c_Y, rfl⟩ := o_Y.slice
      clear o_u ap
      rw [show m / Nat.gcd x m = YY from EY.out] at *
      replace Q_x := Lib.hid (rowOf_below Q_x.out bw3)
      replace Q_m := Lib.hid (rowOf_below Q_m.out bw3)
      replace Q_g := Lib.hid (rowOf_below Q_g.out bw3)
      replace Q_X := Lib.hid (rowOf_below Q_X.out bw3)
      have Q_Y := Lib.hid o_Y.row
      clear o_Y
      replace B := Lib.hid (B.out.trans (bw3.mono B.out.size))
      replace BB := Lib.hid (BB.out.trans (bw3.mono BB.out.size))
      clear bw3
      skip
      go_wp2_with fail
      refine (spec_makeN b _ XX _ Q_X.out (by have := KX.out; exact Nat.lt_of_lt_of_le this (pw_mono (by omega)))).mono ?_
      rintro e w4 ⟨v_k, rfl, o_k, bw4⟩
      obtain ⟨a_k, c_k, rfl⟩ := o_k.slice
      replace Q_x := Lib.hid (rowOf_below Q_x.out bw4)
      replace Q_m := Lib.hid (rowOf_below Q_m.out bw4)
      replace Q_g := Lib.hid (rowOf_below Q_g.out bw4)
      replace Q_X := Lib.hid (rowOf_below Q_X.out bw4)
      replace Q_Y := Lib.hid (rowOf_below Q_Y.out bw4)
      have O_k := Lib.hid (o_k.base BB.out.size)
      clear o_k
      replace B := Lib.hid (B.out.trans (bw4.mono B.out.size))
      replace BB := Lib.hid (BB.out.trans (bw4.mono BB.out.size))
      clear bw4
      have hln : ([] : List Int).length + (limI YY).length ≤ 1099511627776 := by have := (nlen_le_iff _ _).2 KY.out; rw [limI_length]; simp; omega
      have HL := Lib.hid (OwnI.lit0 w4)
      have HR2 := Lib.hid (rowOf_below Q_Y.out ((Below.refl _ _).alloc (Nat.le_refl _) (.cells #[] 3)))
      have FIN : Hid (∀ (v' : Value) (wz : World), OwnI wz w4.heap.size v' ([] ++ limI YY) → (w4.alloc (.cells #[] 3)).grownBy wz (some w4.heap.size) → (∃ a c, v' = .slice a (limI YY).length c) ∧ Rx wz w.heap.size 34 false (.slice none 0 0) (.slice none 0 0) ∧ OwnR wz W0.heap.size (.slice a_k (limI XX).length c_k) (limI XX) v' (limI YY) ∧ Below w.heap.size w wz) := fun v' wz h1 hg => by
        rw [List.nil_append] at h1
        have hsz := BB.out.size; have hs0 := SZ.out; have hlt := O_k.out.lt
        refine ⟨h1.slice, ((D_r.out.below BB.out).alloc _).kept hg (fun e => by injection e with e; omega), ⟨(O_k.out.alloc _).other hg (fun g g' e1 e2 e3 => by injection e2 with e2; have := (hlt g e1).2; omega), h1.base hsz, fun g g' e1 e2 e3 => by have := (hlt g e1).2; have := (h1.lt g' e2).1; omega⟩, (B.out.alloc B.out.size _).grown hg (by have := B.out.size; simp; omega) (fun g e => by injection e with e; omega)⟩
      go_wp2_with (at_builtin; refine append_ints rfl _ _ 30 Tryz.underlying30 rfl _ _ _ [] (limI YY) rfl HL.out rfl HR2.out hln (by simp) ?_; intro v2 w2z h1 hg1; obtain ⟨⟨a2, c2, rfl⟩, hD, hO, hB⟩ := FIN.out _ _ h1 hg1; have k0 := hD.c0; have k1 := hD.c1; have k2 := hD.c2; have k3 := hD.f 0; have k4 := hD.f 1; have k5 := hD.f 2; have HD := Lib.hid hD; have HO := Lib.hid hO; have HB := Lib.hid hB; clear hD hO hB h1 hg1)
      obtain ⟨e1, e2⟩ := rat_end (b' := (b && decide (0 < XX))) HB.out HD.out HO.out (by decide) (by have := SZ.out; omega) (Nat.le_refl _) (.slice a_k (limI XX).length c_k) (.slice a2 (limI YY).length c2)
      have D8 := Rx.set3 (b' := (b && decide (0 < XX))) (v' := .slice a_k (limI XX).length c_k) (d' := .slice a2 (limI YY).length c2) HD.out
      have hc0 := D8.c0; have hc1 := D8.c1; have hc2 := D8.c2
      exact bodyPost_ret (v := .agg #[.bool (b && decide (0 < XX)), .slice a_k (limI XX).length c_k, .slice a2 (limI YY).length c2]) (by simp [results, Tryz.results126, go_sem, hc0, hc1, hc2]) rfl ⟨_, _, rfl, e1, e2⟩

end Go.Proofs.YtlepgkkpopjgoaaGreat
