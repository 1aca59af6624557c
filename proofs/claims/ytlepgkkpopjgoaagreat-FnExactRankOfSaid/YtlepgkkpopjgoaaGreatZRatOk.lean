/- RatOk of the program and of the model. -/
import Derived.Test.YtlepgkkpopjgoaaGreatZRatLim
namespace Go.Proofs.YtlepgkkpopjgoaaGreat
open Go.RowKit Go.WideShapes Go.ChangeShapes
set_option linter.unusedVariables false
set_option linter.unusedSimpArgs false

set_option maxHeartbeats 1000000 in
theorem impl_ratOk (b : Bool) (v : Value) (zs : List Int) (d : Value) (ds : List Int) (w : World) (h : RowR w v zs d ds) :
    Calls Tryz.prog 65 #[.agg #[.bool b, v, d]] w fun r w' => r = .returned (.bool (ratOk b zs ds)) ∧ Below w.heap.size w w' := by
  have RA_x := Lib.hid h.1
  have RA_d := Lib.hid h.2
  obtain ⟨⟨a, c, rfl, h1, h2, h3⟩, ⟨e, f, rfl, h4, h5, h6⟩⟩ := h
  clear h1 h2 h3 h4 h5 h6
  obtain ⟨n, hn⟩ : ∃ n, zs.length = n := ⟨_, rfl⟩
  obtain ⟨m, hm⟩ : ∃ n, ds.length = n := ⟨_, rfl⟩
  rw [hn] at RA_x ⊢
  rw [hm] at RA_d ⊢
  have HN := Lib.hid hn
  have HM := Lib.hid hm
  clear hn hm
  by_cases h0 : 0 < m
  rotate_left
  · have HR := Lib.hid (show ratOk b zs ds = false from ratOk_len (by rw [HM.out]; omega))
    rw [HR.out]
    obtain rfl : m = 0 := by omega
    go_enter Tryz.func65, Tryz.ntmps65
    go_wp2
    go_ret
    exact ⟨ret_bool rfl, (Below.refl _ _).alloc (Nat.le_refl _) _⟩

  cases hs : (decide (n ≤ 24) && decide (m ≤ 24)) with
  | false =>
    have HS := Lib.hid hs
    have HR := Lib.hid (show ratOk b zs ds = false from ratOk_len (by rw [HM.out, HN.out]; simp at hs; omega))
    rw [HR.out]
    clear hs
    go_enter Tryz.func65, Tryz.ntmps65
    go_wp2_with fail
    obtain ⟨W0, hW0⟩ : ∃ x, x = (w.alloc (.cells #[.bool b, .slice a n c, .slice e m f] 34)) := ⟨_, rfl⟩
    have B := Lib.hid (show Below w.heap.size w W0 by rw [hW0]; exact ((Below.refl _ _).alloc (Nat.le_refl _) _))
    have D_x := Lib.hid (rx_at (show Rx W0 _ 34 (b) (.slice a n c) (.slice e m f) by rw [hW0]; exact Rx.new _ _ _ _ _) (show w.heap.size = _ by simp))
    have SZ := Lib.hid (show W0.heap.size = w.heap.size + 1 by rw [hW0]; simp)
    rw [← hW0]
    clear hW0
    have BB := Lib.hid (Below.refl W0.heap.size W0)
    refine (impl_isShort b a n c e m f _).mono ?_
    rw [HS.out]
    rintro e w1 ⟨rfl, bw1⟩
    replace B := Lib.hid (B.out.trans (bw1.mono B.out.size))
    replace BB := Lib.hid (BB.out.trans (bw1.mono BB.out.size))
    clear bw1
    have c0_x := (D_x.out.below BB.out).c0
    have c1_x := (D_x.out.below BB.out).c1
    have c2_x := (D_x.out.below BB.out).c2
    go_wp2
    go_ret
    exact ⟨ret_bool (by first | rfl | (rw [HR.out]) | (simp; omega)), B.out⟩

  | true =>
    have HS := Lib.hid hs
    cases hb : bigOk b zs with
    | false =>
      have HB := Lib.hid hb
      have HR := Lib.hid (show ratOk b zs ds = false from ratOk_big hb)
      rw [HR.out]
      clear hb hs
      go_enter Tryz.func65, Tryz.ntmps65
      go_wp2_with fail
      obtain ⟨W0, hW0⟩ : ∃ x, x = (w.alloc (.cells #[.bool b, .slice a n c, .slice e m f] 34)) := ⟨_, rfl⟩
      have B := Lib.hid (show Below w.heap.size w W0 by rw [hW0]; exact ((Below.refl _ _).alloc (Nat.le_refl _) _))
      have D_x := Lib.hid (rx_at (show Rx W0 _ 34 (b) (.slice a n c) (.slice e m f) by rw [hW0]; exact Rx.new _ _ _ _ _) (show w.heap.size = _ by simp))
      have SZ := Lib.hid (show W0.heap.size = w.heap.size + 1 by rw [hW0]; simp)
      rw [← hW0]
      clear hW0
      have BB := Lib.hid (Below.refl W0.heap.size W0)
      refine (impl_isShort b a n c e m f _).mono ?_
      rw [HS.out]
      rintro e w1 ⟨rfl, bw1⟩
      replace B := Lib.hid (B.out.trans (bw1.mono B.out.size))
      replace BB := Lib.hid (BB.out.trans (bw1.mono BB.out.size))
      clear bw1
      have c0_x := (D_x.out.below BB.out).c0
      have c1_x := (D_x.out.below BB.out).c1
      have c2_x := (D_x.out.below BB.out).c2
      go_wp2_with fail
      clear c0_x c1_x c2_x
      refine (impl_bigOkB b _ zs _ (rowOf_below RA_x.out B.out)).mono ?_
      rw [HB.out]
      rintro e w2 ⟨rfl, bw2⟩
      replace B := Lib.hid (B.out.trans (bw2.mono B.out.size))
      replace BB := Lib.hid (BB.out.trans (bw2.mono BB.out.size))
      clear bw2
      have c0_x := (D_x.out.below BB.out).c0
      have c1_x := (D_x.out.below BB.out).c1
      have c2_x := (D_x.out.below BB.out).c2
      go_wp2
      go_ret
      exact ⟨ret_bool (by first | rfl | (rw [HR.out]) | (simp; omega)), B.out⟩

    | true =>
      have HB := Lib.hid hb
      cases hd : okB ds with
      | false =>
        have HD := Lib.hid hd
        have HR := Lib.hid (show ratOk b zs ds = false from ratOk_den hd)
        rw [HR.out]
        clear hb hd hs
        go_enter Tryz.func65, Tryz.ntmps65
        go_wp2_with fail
        obtain ⟨W0, hW0⟩ : ∃ x, x = (w.alloc (.cells #[.bool b, .slice a n c, .slice e m f] 34)) := ⟨_, rfl⟩
        have B := Lib.hid (show Below w.heap.size w W0 by rw [hW0]; exact ((Below.refl _ _).alloc (Nat.le_refl _) _))
        have D_x := Lib.hid (rx_at (show Rx W0 _ 34 (b) (.slice a n c) (.slice e m f) by rw [hW0]; exact Rx.new _ _ _ _ _) (show w.heap.size = _ by simp))
        have SZ := Lib.hid (show W0.heap.size = w.heap.size + 1 by rw [hW0]; simp)
        rw [← hW0]
        clear hW0
        have BB := Lib.hid (Below.refl W0.heap.size W0)
        refine (impl_isShort b a n c e m f _).mono ?_
        rw [HS.out]
        rintro e w1 ⟨rfl, bw1⟩
        replace B := Lib.hid (B.out.trans (bw1.mono B.out.size))
        replace BB := Lib.hid (BB.out.trans (bw1.mono BB.out.size))
        clear bw1
        have c0_x := (D_x.out.below BB.out).c0
        have c1_x := (D_x.out.below BB.out).c1
        have c2_x := (D_x.out.below BB.out).c2
        go_wp2_with fail
        clear c0_x c1_x c2_x
        refine (impl_bigOkB b _ zs _ (rowOf_below RA_x.out B.out)).mono ?_
        rw [HB.out]
        rintro e w2 ⟨rfl, bw2⟩
        replace B := Lib.hid (B.out.trans (bw2.mono B.out.size))
        replace BB := Lib.hid (BB.out.trans (bw2.mono BB.out.size))
        clear bw2
        have c0_x := (D_x.out.below BB.out).c0
        have c1_x := (D_x.out.below BB.out).c1
        have c2_x := (D_x.out.below BB.out).c2
        go_wp2_with fail
        clear c0_x c1_x c2_x
        refine (impl_natOk _ ds _ (rowOf_below RA_d.out B.out)).mono ?_
        rw [HD.out]
        rintro r w9 ⟨rfl, rfl⟩
        have c0_x := (D_x.out.below BB.out).c0
        have c1_x := (D_x.out.below BB.out).c1
        have c2_x := (D_x.out.below BB.out).c2
        go_wp2
        go_ret
        exact ⟨ret_bool (by first | rfl | (rw [HR.out]) | (simp; omega)), B.out⟩

      | true =>
        have HD := Lib.hid hd
        have hm24 : m ≤ 24 := by simp at hs; omega
        have hn24 : n ≤ 24 := by simp at hs; omega
        clear hs
        obtain ⟨x, hz, hx⟩ := okB_cases (bigOk_ok hb)
        obtain ⟨d, he, hd9⟩ := okB_cases hd
        have HX := Lib.hid (show nlen x ≤ 24 by rw [← limI_length, ← hz, HN.out]; exact hn24)
        have HY := Lib.hid (show nlen d ≤ 24 by rw [← limI_length, ← he, HM.out]; exact hm24)
        have HR := Lib.hid (show ratOk b zs ds = decide (Nat.gcd x d = 1) by
          have hz' := hz; have he' := he
          have h9 : 0 < d := (limI_pos d).1 (by rw [← he', HM.out]; exact h0)
          have hbx : b = true → 0 < x := fun hb' => by subst hb'; exact (limI_pos x).1 (by rw [← hz']; exact bigOk_pos hb)
          rw [hz', he']
          exact ratOk_make ((nlen_le_iff _ _).1 HX.out) ((nlen_le_iff _ _).1 HY.out) h9 hbx)
        rw [HR.out]
        have HZ := Lib.hid hz
        have HE := Lib.hid he
        clear hb hd hz hx he hd9
        go_enter Tryz.func65, Tryz.ntmps65
        go_wp2_with fail
        obtain ⟨W0, hW0⟩ : ∃ x, x = (w.alloc (.cells #[.bool b, .slice a n c, .slice e m f] 34)) := ⟨_, rfl⟩
        have B := Lib.hid (show Below w.heap.size w W0 by rw [hW0]; exact ((Below.refl _ _).alloc (Nat.le_refl _) _))
        have D_x := Lib.hid (rx_at (show Rx W0 _ 34 (b) (.slice a n c) (.slice e m f) by rw [hW0]; exact Rx.new _ _ _ _ _) (show w.heap.size = _ by simp))
        have SZ := Lib.hid (show W0.heap.size = w.heap.size + 1 by rw [hW0]; simp)
        rw [← hW0]
        clear hW0
        have BB := Lib.hid (Below.refl W0.heap.size W0)
        refine (impl_isShort b a n c e m f _).mono ?_
        rw [HS.out]
        rintro e w1 ⟨rfl, bw1⟩
        replace B := Lib.hid (B.out.trans (bw1.mono B.out.size))
        replace BB := Lib.hid (BB.out.trans (bw1.mono BB.out.size))
        clear bw1
        have c0_x := (D_x.out.below BB.out).c0
        have c1_x := (D_x.out.below BB.out).c1
        have c2_x := (D_x.out.below BB.out).c2
        go_wp2_with fail
        clear c0_x c1_x c2_x
        refine (impl_bigOkB b _ zs _ (rowOf_below RA_x.out B.out)).mono ?_
        rw [HB.out]
        rintro e w2 ⟨rfl, bw2⟩
        replace B := Lib.hid (B.out.trans (bw2.mono B.out.size))
        replace BB := Lib.hid (BB.out.trans (bw2.mono BB.out.size))
        clear bw2
        have c0_x := (D_x.out.below BB.out).c0
        have c1_x := (D_x.out.below BB.out).c1
        have c2_x := (D_x.out.below BB.out).c2
        go_wp2_with fail
        clear c0_x c1_x c2_x
        refine (impl_natOk _ ds _ (rowOf_below RA_d.out B.out)).mono ?_
        rw [HD.out]
        rintro r w9 ⟨rfl, rfl⟩
        have c0_x := (D_x.out.below BB.out).c0
        have c1_x := (D_x.out.below BB.out).c1
        have c2_x := (D_x.out.below BB.out).c2
        go_wp2_with fail
        clear c0_x c1_x c2_x
        refine (impl_common _ _ x d _ (row_cast (rowOf_below RA_x.out B.out) HZ.out) (row_cast (rowOf_below RA_d.out B.out) HE.out) (by have := HX.out; omega) (by have := HY.out; omega)).mono ?_
        rintro e w3 ⟨v_g, rfl, o_g, bw3⟩
        obtain ⟨a_g, c_g, rfl⟩ := o_g.slice
        have Q_g := Lib.hid o_g.row
        clear o_g
        replace B := Lib.hid (B.out.trans (bw3.mono B.out.size))
        replace BB := Lib.hid (BB.out.trans (bw3.mono BB.out.size))
        clear bw3
        have c0_x := (D_x.out.below BB.out).c0
        have c1_x := (D_x.out.below BB.out).c1
        have c2_x := (D_x.out.below BB.out).c2
        go_wp2_with fail
        clear c0_x c1_x c2_x
        refine (impl_isOne _ (Nat.gcd x d) _ Q_g.out).mono ?_
        rintro r w9 ⟨rfl, rfl⟩
        go_wp2
        go_ret
        exact ⟨ret_bool (by first | rfl | (rw [HR.out]) | (simp; omega)), B.out⟩

set_option maxHeartbeats 1000000 in
theorem spec_ratOk (b : Bool) (v : Value) (zs : List Int) (d : Value) (ds : List Int) (w : World) (h : RowR w v zs d ds) :
    Calls Tryz.prog 120 #[.agg #[.bool b, v, d]] w fun r w' => r = .returned (.bool (ratOk b zs ds)) ∧ Below w.heap.size w w' := by
  have RA_x := Lib.hid h.1
  have RA_d := Lib.hid h.2
  obtain ⟨⟨a, c, rfl, h1, h2, h3⟩, ⟨e, f, rfl, h4, h5, h6⟩⟩ := h
  clear h1 h2 h3 h4 h5 h6
  obtain ⟨n, hn⟩ : ∃ n, zs.length = n := ⟨_, rfl⟩
  obtain ⟨m, hm⟩ : ∃ n, ds.length = n := ⟨_, rfl⟩
  rw [hn] at RA_x ⊢
  rw [hm] at RA_d ⊢
  have HN := Lib.hid hn
  have HM := Lib.hid hm
  clear hn hm
  cases hb : bigOk b zs with
  | false =>
    have HB := Lib.hid hb
    have HR := Lib.hid (show ratOk b zs ds = false from ratOk_big hb)
    rw [HR.out]
    clear hb
    go_enter Tryz.func120, Tryz.ntmps120
    go_wp2_with fail
    obtain ⟨W0, hW0⟩ : ∃ x, x = (w.alloc (.cells #[.bool b, .slice a n c, .slice e m f] 34)) := ⟨_, rfl⟩
    have B := Lib.hid (show Below w.heap.size w W0 by rw [hW0]; exact ((Below.refl _ _).alloc (Nat.le_refl _) _))
    have D_x := Lib.hid (rx_at (show Rx W0 _ 34 (b) (.slice a n c) (.slice e m f) by rw [hW0]; exact Rx.new _ _ _ _ _) (show w.heap.size = _ by simp))
    have SZ := Lib.hid (show W0.heap.size = w.heap.size + 1 by rw [hW0]; simp)
    rw [← hW0]
    clear hW0
    have BB := Lib.hid (Below.refl W0.heap.size W0)
    refine (spec_bigOkB b _ zs _ (rowOf_below RA_x.out B.out)).mono ?_
    rw [HB.out]
    rintro e w1 ⟨rfl, bw1⟩
    replace B := Lib.hid (B.out.trans (bw1.mono B.out.size))
    replace BB := Lib.hid (BB.out.trans (bw1.mono BB.out.size))
    clear bw1
    have c0_x := (D_x.out.below BB.out).c0
    have c1_x := (D_x.out.below BB.out).c1
    have c2_x := (D_x.out.below BB.out).c2
    go_wp2
    go_ret
    exact ⟨ret_bool (by first | rfl | (rw [HR.out]) | (simp; omega)), B.out⟩

  | true =>
    have HB := Lib.hid hb
    cases hd : okB ds with
    | false =>
      have HD := Lib.hid hd
      have HR := Lib.hid (show ratOk b zs ds = false from ratOk_den hd)
      rw [HR.out]
      clear hb hd
      go_enter Tryz.func120, Tryz.ntmps120
      go_wp2_with fail
      obtain ⟨W0, hW0⟩ : ∃ x, x = (w.alloc (.cells #[.bool b, .slice a n c, .slice e m f] 34)) := ⟨_, rfl⟩
      have B := Lib.hid (show Below w.heap.size w W0 by rw [hW0]; exact ((Below.refl _ _).alloc (Nat.le_refl _) _))
      have D_x := Lib.hid (rx_at (show Rx W0 _ 34 (b) (.slice a n c) (.slice e m f) by rw [hW0]; exact Rx.new _ _ _ _ _) (show w.heap.size = _ by simp))
      have SZ := Lib.hid (show W0.heap.size = w.heap.size + 1 by rw [hW0]; simp)
      rw [← hW0]
      clear hW0
      have BB := Lib.hid (Below.refl W0.heap.size W0)
      refine (spec_bigOkB b _ zs _ (rowOf_below RA_x.out B.out)).mono ?_
      rw [HB.out]
      rintro e w1 ⟨rfl, bw1⟩
      replace B := Lib.hid (B.out.trans (bw1.mono B.out.size))
      replace BB := Lib.hid (BB.out.trans (bw1.mono BB.out.size))
      clear bw1
      have c0_x := (D_x.out.below BB.out).c0
      have c1_x := (D_x.out.below BB.out).c1
      have c2_x := (D_x.out.below BB.out).c2
      go_wp2_with fail
      clear c0_x c1_x c2_x
      refine (spec_natOk _ ds _ (rowOf_below RA_d.out B.out)).mono ?_
      rw [HD.out]
      rintro r w9 ⟨rfl, rfl⟩
      have c0_x := (D_x.out.below BB.out).c0
      have c1_x := (D_x.out.below BB.out).c1
      have c2_x := (D_x.out.below BB.out).c2
      go_wp2
      go_ret
      exact ⟨ret_bool (by first | rfl | (rw [HR.out]) | (simp; omega)), B.out⟩

    | true =>
      have HD := Lib.hid hd
      by_cases h9 : ¬ 0 < m
      · have HR := Lib.hid (show ratOk b zs ds = false from ratOk_len (by rw [HM.out, HN.out]; omega))
        rw [HR.out]
        clear hb hd
        have hq : ((m : Int) == 0) = true := by simp; omega
        go_enter Tryz.func120, Tryz.ntmps120
        go_wp2_with fail
        obtain ⟨W0, hW0⟩ : ∃ x, x = (w.alloc (.cells #[.bool b, .slice a n c, .slice e m f] 34)) := ⟨_, rfl⟩
        have B := Lib.hid (show Below w.heap.size w W0 by rw [hW0]; exact ((Below.refl _ _).alloc (Nat.le_refl _) _))
        have D_x := Lib.hid (rx_at (show Rx W0 _ 34 (b) (.slice a n c) (.slice e m f) by rw [hW0]; exact Rx.new _ _ _ _ _) (show w.heap.size = _ by simp))
        have SZ := Lib.hid (show W0.heap.size = w.heap.size + 1 by rw [hW0]; simp)
        rw [← hW0]
        clear hW0
        have BB := Lib.hid (Below.refl W0.heap.size W0)
        refine (spec_bigOkB b _ zs _ (rowOf_below RA_x.out B.out)).mono ?_
        rw [HB.out]
        rintro e w1 ⟨rfl, bw1⟩
        replace B := Lib.hid (B.out.trans (bw1.mono B.out.size))
        replace BB := Lib.hid (BB.out.trans (bw1.mono BB.out.size))
        clear bw1
        have c0_x := (D_x.out.below BB.out).c0
        have c1_x := (D_x.out.below BB.out).c1
        have c2_x := (D_x.out.below BB.out).c2
        go_wp2_with fail
        clear c0_x c1_x c2_x
        refine (spec_natOk _ ds _ (rowOf_below RA_d.out B.out)).mono ?_
        rw [HD.out]
        rintro r w9 ⟨rfl, rfl⟩
        have c0_x := (D_x.out.below BB.out).c0
        have c1_x := (D_x.out.below BB.out).c1
        have c2_x := (D_x.out.below BB.out).c2
        go_wp2
        go_ret
        exact ⟨ret_bool (by first | rfl | (rw [HR.out]) | (simp; omega)), B.out⟩

      have h0 : 0 < m := by omega
      have q0 : ((m : Int) == 0) = false := by simp; omega
      clear h9
      by_cases h9 : ¬ m ≤ 24
      · have HR := Lib.hid (show ratOk b zs ds = false from ratOk_len (by rw [HM.out, HN.out]; omega))
        rw [HR.out]
        clear hb hd
        have hq : decide (24 < (m : Int)) = true := by simp; omega
        go_enter Tryz.func120, Tryz.ntmps120
        go_wp2_with fail
        obtain ⟨W0, hW0⟩ : ∃ x, x = (w.alloc (.cells #[.bool b, .slice a n c, .slice e m f] 34)) := ⟨_, rfl⟩
        have B := Lib.hid (show Below w.heap.size w W0 by rw [hW0]; exact ((Below.refl _ _).alloc (Nat.le_refl _) _))
        have D_x := Lib.hid (rx_at (show Rx W0 _ 34 (b) (.slice a n c) (.slice e m f) by rw [hW0]; exact Rx.new _ _ _ _ _) (show w.heap.size = _ by simp))
        have SZ := Lib.hid (show W0.heap.size = w.heap.size + 1 by rw [hW0]; simp)
        rw [← hW0]
        clear hW0
        have BB := Lib.hid (Below.refl W0.heap.size W0)
        refine (spec_bigOkB b _ zs _ (rowOf_below RA_x.out B.out)).mono ?_
        rw [HB.out]
        rintro e w1 ⟨rfl, bw1⟩
        replace B := Lib.hid (B.out.trans (bw1.mono B.out.size))
        replace BB := Lib.hid (BB.out.trans (bw1.mono BB.out.size))
        clear bw1
        have c0_x := (D_x.out.below BB.out).c0
        have c1_x := (D_x.out.below BB.out).c1
        have c2_x := (D_x.out.below BB.out).c2
        go_wp2_with fail
        clear c0_x c1_x c2_x
        refine (spec_natOk _ ds _ (rowOf_below RA_d.out B.out)).mono ?_
        rw [HD.out]
        rintro r w9 ⟨rfl, rfl⟩
        have c0_x := (D_x.out.below BB.out).c0
        have c1_x := (D_x.out.below BB.out).c1
        have c2_x := (D_x.out.below BB.out).c2
        go_wp2
        go_ret
        exact ⟨ret_bool (by first | rfl | (rw [HR.out]) | (simp; omega)), B.out⟩

      have hm24 : m ≤ 24 := by omega
      have q1 : decide (24 < (m : Int)) = false := by simp; omega
      clear h9
      by_cases h9 : ¬ n ≤ 24
      · have HR := Lib.hid (show ratOk b zs ds = false from ratOk_len (by rw [HM.out, HN.out]; omega))
        rw [HR.out]
        clear hb hd
        have hq : decide (24 < (n : Int)) = true := by simp; omega
        go_enter Tryz.func120, Tryz.ntmps120
        go_wp2_with fail
        obtain ⟨W0, hW0⟩ : ∃ x, x = (w.alloc (.cells #[.bool b, .slice a n c, .slice e m f] 34)) := ⟨_, rfl⟩
        have B := Lib.hid (show Below w.heap.size w W0 by rw [hW0]; exact ((Below.refl _ _).alloc (Nat.le_refl _) _))
        have D_x := Lib.hid (rx_at (show Rx W0 _ 34 (b) (.slice a n c) (.slice e m f) by rw [hW0]; exact Rx.new _ _ _ _ _) (show w.heap.size = _ by simp))
        have SZ := Lib.hid (show W0.heap.size = w.heap.size + 1 by rw [hW0]; simp)
        rw [← hW0]
        clear hW0
        have BB := Lib.hid (Below.refl W0.heap.size W0)
        refine (spec_bigOkB b _ zs _ (rowOf_below RA_x.out B.out)).mono ?_
        rw [HB.out]
        rintro e w1 ⟨rfl, bw1⟩
        replace B := Lib.hid (B.out.trans (bw1.mono B.out.size))
        replace BB := Lib.hid (BB.out.trans (bw1.mono BB.out.size))
        clear bw1
        have c0_x := (D_x.out.below BB.out).c0
        have c1_x := (D_x.out.below BB.out).c1
        have c2_x := (D_x.out.below BB.out).c2
        go_wp2_with fail
        clear c0_x c1_x c2_x
        refine (spec_natOk _ ds _ (rowOf_below RA_d.out B.out)).mono ?_
        rw [HD.out]
        rintro r w9 ⟨rfl, rfl⟩
        have c0_x := (D_x.out.below BB.out).c0
        have c1_x := (D_x.out.below BB.out).c1
        have c2_x := (D_x.out.below BB.out).c2
        go_wp2
        go_ret
        exact ⟨ret_bool (by first | rfl | (rw [HR.out]) | (simp; omega)), B.out⟩

      have hn24 : n ≤ 24 := by omega
      have q2 : decide (24 < (n : Int)) = false := by simp; omega
      clear h9
      obtain ⟨x, hz, hx⟩ := okB_cases (bigOk_ok hb)
      obtain ⟨d, he, hd9⟩ := okB_cases hd
      have HX := Lib.hid (show nlen x ≤ 24 by rw [← limI_length, ← hz, HN.out]; exact hn24)
      have HY := Lib.hid (show nlen d ≤ 24 by rw [← limI_length, ← he, HM.out]; exact hm24)
      have HR := Lib.hid (show ratOk b zs ds = decide (Nat.gcd x d = 1) by
        have hz' := hz; have he' := he
        have h9 : 0 < d := (limI_pos d).1 (by rw [← he', HM.out]; exact h0)
        have hbx : b = true → 0 < x := fun hb' => by subst hb'; exact (limI_pos x).1 (by rw [← hz']; exact bigOk_pos hb)
        rw [hz', he']
        exact ratOk_make ((nlen_le_iff _ _).1 HX.out) ((nlen_le_iff _ _).1 HY.out) h9 hbx)
      rw [HR.out]
      have HZ := Lib.hid hz
      have HE := Lib.hid he
      clear hb hd hz hx he hd9
      go_enter Tryz.func120, Tryz.ntmps120
      go_wp2_with fail
      obtain ⟨W0, hW0⟩ : ∃ x, x = (w.alloc (.cells #[.bool b, .slice a n c, .slice e m f] 34)) := ⟨_, rfl⟩
      have B := Lib.hid (show Below w.heap.size w W0 by rw [hW0]; exact ((Below.refl _ _).alloc (Nat.le_refl _) _))
      have D_x := Lib.hid (rx_at (show Rx W0 _ 34 (b) (.slice a n c) (.slice e m f) by rw [hW0]; exact Rx.new _ _ _ _ _) (show w.heap.size = _ by simp))
      have SZ := Lib.hid (show W0.heap.size = w.heap.size + 1 by rw [hW0]; simp)
      rw [← hW0]
      clear hW0
      have BB := Lib.hid (Below.refl W0.heap.size W0)
      refine (spec_bigOkB b _ zs _ (rowOf_below RA_x.out B.out)).mono ?_
      rw [HB.out]
      rintro e w1 ⟨rfl, bw1⟩
      replace B := Lib.hid (B.out.trans (bw1.mono B.out.size))
      replace BB := Lib.hid (BB.out.trans (bw1.mono BB.out.size))
      clear bw1
      have c0_x := (D_x.out.below BB.out).c0
      have c1_x := (D_x.out.below BB.out).c1
      have c2_x := (D_x.out.below BB.out).c2
      go_wp2_with fail
      clear c0_x c1_x c2_x
      refine (spec_natOk _ ds _ (rowOf_below RA_d.out B.out)).mono ?_
      rw [HD.out]
      rintro r w9 ⟨rfl, rfl⟩
      have c0_x := (D_x.out.below BB.out).c0
      have c1_x := (D_x.out.below BB.out).c1
      have c2_x := (D_x.out.below BB.out).c2
      go_wp2_with fail
      clear c0_x c1_x c2_x
      refine (spec_gcd _ _ x d _ (row_cast (rowOf_below RA_x.out B.out) HZ.out) (row_cast (rowOf_below RA_d.out B.out) HE.out) (by have := HX.out; omega) (by have := HY.out; omega)).mono ?_
      rintro e w2 ⟨v_g, rfl, o_g, bw2⟩
      obtain ⟨a_g, c_g, rfl⟩ := o_g.slice
      have Q_g := Lib.hid o_g.row
      clear o_g
      replace B := Lib.hid (B.out.trans (bw2.mono B.out.size))
      replace BB := Lib.hid (BB.out.trans (bw2.mono BB.out.size))
      clear bw2
      have c0_x := (D_x.out.below BB.out).c0
      have c1_x := (D_x.out.below BB.out).c1
      have c2_x := (D_x.out.below BB.out).c2
      go_wp2_with fail
      clear c0_x c1_x c2_x
      refine (spec_isOne _ (Nat.gcd x d) _ Q_g.out).mono ?_
      rintro r w9 ⟨rfl, rfl⟩
      go_wp2
      go_ret
      exact ⟨ret_bool (by first | rfl | (rw [HR.out]) | (simp; omega)), B.out⟩

end Go.Proofs.YtlepgkkpopjgoaaGreat
