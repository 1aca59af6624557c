/- RatOk of the program and of the model. -/
import Derived.Test.YtgoonbjhfbnaiaaRatLim
namespace Go.Proofs.Ytgoonbjhfbnaiaa
open Go.RowKit Go.WideShapes Go.ChangeShapes
set_option linter.unusedVariables false
set_option linter.unusedSimpArgs false


set_option maxHeartbeats 1000000 in
theorem impl_ratOk (b : Bool) (v : Value) (zs : List Int) (d : Value) (ds : List Int) (w : World) (h : RowR w v zs d ds) :
    Calls Try.prog 20 #[.agg #[.bool b, v, d]] w fun r w' => r = .returned (.bool (ratOk b zs ds)) ∧ Below w.heap.size w w' := by
  have RA_x := Lib.hid h.1
  have RA_d := Lib.hid h.2
  obtain ⟨⟨a, c, rfl, h1, h2, h3⟩, ⟨e, f, rfl, h4, h5, h6⟩⟩ := h
  clear h1 h2 h3 h4 h5 h6
  obtain ⟨n, hn⟩ : ∃ n, zs.length = n := ⟨_, rfl⟩
  obtain ⟨m, hm⟩ : ∃ n, ds.length = n := ⟨_, rfl⟩
  rw [hn] at RA_x ⊢
  rw [hm] at RA_d ⊢
  have HN := Lib.hid hn
  have HM := Lib.hid hm
  clear hn hm
  by_cases h0 : 0 < m
  rotate_left
  · have HR := Lib.hid (show ratOk b zs ds = false from ratOk_len (by rw [HM.out]; omega))
    rw [HR.out]
    obtain rfl : m = 0 := by omega
    go_enter Try.func20, Try.ntmps20
    go_wp2
    go_ret
    exact ⟨ret_bool rfl, (Below.refl _ _).alloc (Nat.le_refl _) _⟩

  cases hs : (decide (n ≤ 24) && decide (m ≤ 24)) with
  | false =>
    have HS := Lib.hid hs
    have HR := Lib.hid (show ratOk b zs ds = false from ratOk_len (by rw [HM.out, HN.out]; simp at hs; omega))
    rw [HR.out]
    clear hs
    go_enter Try.func20, Try.ntmps20
    go_wp2_with fail
    obtain ⟨W0, hW0⟩ : ∃ x, x = (w.alloc (.cells #[.bool b, .slice a n c, .slice e m f] 31)) := ⟨_, rfl⟩
    have B := Lib.hid (show Below w.heap.size w W0 by rw [hW0]; exact ((Below.refl _ _).alloc (Nat.le_refl _) _))
    have D_x := Lib.hid (rx_at (show Rx W0 _ 31 (b) (.slice a n c) (.slice e m f) by rw [hW0]; exact Rx.new _ _ _ _ _) (show w.heap.size = _ by simp))
    have SZ := Lib.hid (show W0.heap.size = w.heap.size + 1 by rw [hW0]; simp)
    rw [← hW0]
    clear hW0
    have BB := Lib.hid (Below.refl W0.heap.size W0)
    refine (impl_isShort b a n c e m f _).mono ?_
    rw [HS.out]
    rintro e w1 ⟨rfl, bw1⟩
    replace B := Lib.hid (B.out.trans (bw1.mono B.out.size))
    replace BB := Lib.hid (BB.out.trans (bw1.mono BB.out.size))
    clear bw1
    have c0_x := (D_x.out.below BB.out).c0
    have c1_x := (D_x.out.below BB.out).c1
    have c2_x := (D_x.out.below BB.out).c2
    go_wp2
    go_ret
    exact ⟨ret_bool (by first | rfl | (rw [HR.out]) | (simp; omega)), B.out⟩

  | true =>
    have HS := Lib.hid hs
    cases hb : bigOk b zs with
    | false =>
      have HB := Lib.hid hb
      have HR := Lib.hid (show ratOk b zs ds = false from ratOk_big hb)
      rw [HR.out]
      clear hb hs
      go_enter Try.func20, Try.ntmps20
      go_wp2_with fail
      obtain ⟨W0, hW0⟩ : ∃ x, x = (w.alloc (.cells #[.bool b, .slice a n c, .slice e m f] 31)) := ⟨_, rfl⟩
      have B := Lib.hid (show Below w.heap.size w W0 by rw [hW0]; exact ((Below.refl _ _).alloc (Nat.le_refl _) _))
      have D_x := Lib.hid (rx_at (show Rx W0 _ 31 (b) (.slice a n c) (.slice e m f) by rw [hW0]; exact Rx.new _ _ _ _ _) (show w.heap.size = _ by simp))
      have SZ := Lib.hid (show W0.heap.size = w.heap.size + 1 by rw [hW0]; simp)
      rw [← hW0]
      clear hW0
      have BB := Lib.hid (Below.refl W0.heap.size W0)
      refine (impl_isShort b a n c e m f _).mono ?_
      rw [HS.out]
      rintro e w1 ⟨rfl, bw1⟩
      replace B := Lib.hid (B.out.trans (bw1.mono B.out.size))
      replace BB := Lib.hid (BB.out.trans (bw1.mono BB.out.size))
      clear bw1
      have c0_x := (D_x.out.below BB.out).c0
      have c1_x := (D_x.out.below BB.out).c1
      have c2_x := (D_x.out.below BB.out).c2
      go_wp2_with fail
      clear c0_x c1_x c2_x
      refine (impl_bigOkB b _ zs _ (rowOf_below RA_x.out B.out)).mono ?_
      rw [HB.out]
      rintro e w2 ⟨rfl, bw2⟩
      replace B := Lib.hid (B.out.trans (bw2.mono B.out.size))
      replace BB := Lib.hid (BB.out.trans (bw2.mono BB.out.size))
      clear bw2
      have c0_x := (D_x.out.below BB.out).c0
      have c1_x := (D_x.out.below BB.out).c1
      have c2_x := (D_x.out.below BB.out).c2
      go_wp2
      go_ret
      exact ⟨ret_bool (by first | rfl | (rw [HR.out]) | (simp; omega)), B.out⟩

    | true =>
      have HB := Lib.hid hb
      cases hd : okB ds with
      | false =>
        have HD := Lib.hid hd
        have HR := Lib.hid (show ratOk b zs ds = false from ratOk_den hd)
        rw [HR.out]
        clear hb hd hs
        go_enter Try.func20, Try.ntmps20
        go_wp2_with fail
        obtain ⟨W0, hW0⟩ : ∃ x, x = (w.alloc (.cells #[.bool b, .slice a n c, .slice e m f] 31)) := ⟨_, rfl⟩
        have B := Lib.hid (show Below w.heap.size w W0 by rw [hW0]; exact ((Below.refl _ _).alloc (Nat.le_refl _) _))
        have D_x := Lib.hid (rx_at (show Rx W0 _ 31 (b) (.slice a n c) (.slice e m f) by rw [hW0]; exact Rx.new _ _ _ _ _) (show w.heap.size = _ by simp))
        have SZ := Lib.hid (show W0.heap.size = w.heap.size + 1 by rw [hW0]; simp)
        rw [← hW0]
        clear hW0
        have BB := Lib.hid (Below.refl W0.heap.size W0)
        refine (impl_isShort b a n c e m f _).mono ?_
        rw [HS.out]
        rintro e w1 ⟨rfl, bw1⟩
        replace B := Lib.hid (B.out.trans (bw1.mono B.out.size))
        replace BB := Lib.hid (BB.out.trans (bw1.mono BB.out.size))
        clear bw1
        have c0_x := (D_x.out.below BB.out).c0
        have c1_x := (D_x.out.below BB.out).c1
        have c2_x := (D_x.out.below BB.out).c2
        go_wp2_with fail
        clear c0_x c1_x c2_x
        refine (impl_bigOkB b _ zs _ (rowOf_below RA_x.out B.out)).mono ?_
        rw [HB.out]
        rintro e w2 ⟨rfl, bw2⟩
        replace B := Lib.hid (B.out.trans (bw2.mono B.out.size))
        replace BB := Lib.hid (BB.out.trans (bw2.mono BB.out.size))
        clear bw2
        have c0_x := (D_x.out.below BB.out).c0
        have c1_x := (D_x.out.below BB.out).c1
        have c2_x := (D_x.out.below BB.out).c2
        go_wp2_with fail
        clear c0_x c1_x c2_x
        refine (impl_natOk _ ds _ (rowOf_below RA_d.out B.out)).mono ?_
        rw [HD.out]
        rintro r w9 ⟨rfl, rfl⟩
        have c0_x := (D_x.out.below BB.out).c0
        have c1_x := (D_x.out.below BB.out).c1
        have c2_x := (D_x.out.below BB.out).c2
        go_wp2
        go_ret
        exact ⟨ret_bool (by first | rfl | (rw [HR.out]) | (simp; omega)), B.out⟩

      | true =>
        have HD := Lib.hid hd
        have hm24 : m ≤ 24 := by simp at hs; omega
        have hn24 : n ≤ 24 := by simp at hs; omega
        clear hs
        obtain ⟨x, hz, hx⟩ := okB_cases (bigOk_ok hb)
        obtain ⟨d, he, hd9⟩ := okB_cases hd
        have HX := Lib.hid (show nlen x ≤ 24 by rw [← limI_length, ← hz, HN.out]; exact hn24)
        have HY := Lib.hid (show nlen d ≤ 24 by rw [← limI_length, ← he, HM.out]; exact hm24)
        have HR := Lib.hid (show ratOk b zs ds = decide (Nat.gcd x d = 1) by
          have hz' := hz; have he' := he
          have h9 : 0 < d := (limI_pos d).1 (by rw [← he', HM.out]; exact h0)
          have hbx : b = true → 0 < x := fun hb' => by subst hb'; exact (limI_pos x).1 (by rw [← hz']; exact bigOk_pos hb)
          rw [hz', he']
          exact ratOk_make ((nlen_le_iff _ _).1 HX.out) ((nlen_le_iff _ _).1 HY.out) h9 hbx)
        rw [HR.out]
        have HZ := Lib.hid hz
        have HE := Lib.hid he
        clear hb hd hz hx he hd9
        go_enter Try.func20, Try.ntmps20
        go_wp2_with fail
        obtain ⟨W0, hW0⟩ : ∃ x, x = (w.alloc (.cells #[.bool b, .slice a n c, .slice e m f] 31)) := ⟨_, rfl⟩
        have B := Lib.hid (show Below w.heap.size w W0 by rw [hW0]; exact ((Below.refl _ _).alloc (Nat.le_refl _) _))
        have D_x := Lib.hid (rx_at (show Rx W0 _ 31 (b) (.slice a n c) (.slice e m f) by rw [hW0]; exact Rx.new _ _ _ _ _) (show w.heap.size = _ by simp))
        have SZ := Lib.hid (show W0.heap.size = w.heap.size + 1 by rw [hW0]; simp)
        rw [← hW0]
        clear hW0
        have BB := Lib.hid (Below.refl W0.heap.size W0)
        refine (impl_isShort b a n c e m f _).mono ?_
        rw [HS.out]
        rintro e w1 ⟨rfl, bw1⟩
        replace B := Lib.hid (B.out.trans (bw1.mono B.out.size))
        replace BB := Lib.hid (BB.out.trans (bw1.mono BB.out.size))
        clear bw1
        have c0_x := (D_x.out.below BB.out).c0
        have c1_x := (D_x.out.below BB.out).c1
        have c2_x := (D_x.out.below BB.out).c2
        go_wp2_with fail
        clear c0_x c1_x c2_x
        refine (impl_bigOkB b _ zs _ (rowOf_below RA_x.out B.out)).mono ?_
        rw [HB.out]
        rintro e w2 ⟨rfl, bw2⟩
        replace B := Lib.hid (B.out.trans (bw2.mono B.out.size))
        replace BB := Lib.hid (BB.out.trans (bw2.mono BB.out.size))
        clear bw2
        have c0_x := (D_x.out.below BB.out).c0
        have c1_x := (D_x.out.below BB.out).c1
        have c2_x := (D_x.out.below BB.out).c2
        go_wp2_with fail
        clear c0_x c1_x c2_x
        refine (impl_natOk _ ds _ (rowOf_below RA_d.out B.out)).mono ?_
        rw [HD.out]
        rintro r w9 ⟨rfl, rfl⟩
        have c0_x := (D_x.out.below BB.out).c0
        have c1_x := (D_x.out.below BB.out).c1
        have c2_x := (D_x.out.below BB.out).c2
        go_wp2_with fail
        clear c0_x c1_x c2_x
        refine (impl_common _ _ x d _ (row_cast (rowOf_below RA_x.out B.out) HZ.out) (row_cast (rowOf_below RA_d.out B.out) HE.out) (by have := HX.out; omega) (by have := HY.out; omega)).mono ?_
        rintro e w3 ⟨v_g, rfl, o_g, bw3⟩
        obtain ⟨a_g, c_g, rfl⟩ := o_g.slice
        have Q_g := Lib.hid o_g.row
        clear o_g
        replace B := Lib.hid (B.out.trans (bw3.mono B.out.size))
        replace BB := Lib.hid (BB.out.trans (bw3.mono BB.out.size))
        clear bw3
        have c0_x := (D_x.out.below BB.out).c0
        have c1_x := (D_x.out.below BB.out).c1
        have c2_x := (D_x.out.below BB.out).c2
        go_wp2_with fail
        clear c0_x c1_x c2_x
        refine (impl_isOne _ (Nat.gcd x d) _ Q_g.out).mono ?_
        rintro r w9 ⟨rfl, rfl⟩
        go_wp2
        go_ret
        exact ⟨ret_bool (by first | rfl | (rw [HR.out]) | (simp; omega)), B.out⟩


set_option maxHeartbeats 1000000 in
theorem spec_ratOk (b : Bool) (v : Value) (zs : List Int) (d : Value) (ds : List Int) (w : World) (h : RowR w v zs d ds) :
    Calls Try.prog 18 #[.agg #[.bool b, v, d]] w fun r w' => r = .returned (.bool (ratOk b zs ds)) ∧ Below w.heap.size w w' := by
  have RA_x := Lib.hid h.1
  have RA_d := Lib.hid h.2
  obtain ⟨⟨a, c, rfl, h1, h2, h3⟩, ⟨e, f, rfl, h4, h5, h6⟩⟩ := h
  clear h1 h2 h3 h4 h5 h6
  obtain ⟨n, hn⟩ : ∃ n, zs.length = n := ⟨_, rfl⟩
  obtain ⟨m, hm⟩ : ∃ n, ds.length = n := ⟨_, rfl⟩
  rw [hn] at RA_x ⊢
  rw [hm] at RA_d ⊢
  have HN := Lib.hid hn
  have HM := Lib.hid hm
  clear hn hm
  cases hb : bigOk b zs with
  | false =>
    have HB := Lib.hid hb
    have HR := Lib.hid (show ratOk b zs ds = false from ratOk_big hb)
    rw [HR.out]
    clear hb
    go_enter Try.func18, Try.ntmps18
    go_wp2_with fail
    obtain ⟨W0, hW0⟩ : ∃ x, x = (w.alloc (.cells #[.bool b, .slice a n c, .slice e m f] 31)) := ⟨_, rfl⟩
    have B := Lib.hid (show Below w.heap.size w W0 by rw [hW0]; exact ((Below.refl _ _).alloc (Nat.le_refl _) _))
    have D_x := Lib.hid (rx_at (show Rx W0 _ 31 (b) (.slice a n c) (.slice e m f) by rw [hW0]; exact Rx.new _ _ _ _ _) (show w.heap.size = _ by simp))
    have SZ := Lib.hid (show W0.heap.size = w.heap.size + 1 by rw [hW0]; simp)
    rw [← hW0]
    clear hW0
    have BB := Lib.hid (Below.refl W0.heap.size W0)
    refine (spec_bigOkB b _ zs _ (rowOf_below RA_x.out B.out)).mono ?_
    rw [HB.out]
    rintro e w1 ⟨rfl, bw1⟩
    replace B := Lib.hid (B.out.trans (bw1.mono B.out.size))
    replace BB := Lib.hid (BB.out.trans (bw1.mono BB.out.size))
    clear bw1
    have c0_x := (D_x.out.below BB.out).c0
    have c1_x := (D_x.out.below BB.out).c1
    have c2_x := (D_x.out.below BB.out).c2
    go_wp2
    go_ret
    exact ⟨ret_bool (by first | rfl | (rw [HR.out]) | (simp; omega)), B.out⟩

  | true =>
    have HB := Lib.hid hb
    cases hd : okB ds with
    | false =>
      have HD := Lib.hid hd
      have HR := Lib.hid (show ratOk b zs ds = false from ratOk_den hd)
      rw [HR.out]
      clear hb hd
      go_enter Try.func18, Try.ntmps18
      go_wp2_with fail
      obtain ⟨W0, hW0⟩ : ∃ x, x = (w.alloc (.cells #[.bool b, .slice a n c, .slice e m f] 31)) := ⟨_, rfl⟩
      have B := Lib.hid (show Below w.heap.size w W0 by rw [hW0]; exact ((Below.refl _ _).alloc (Nat.le_refl _) _))
      have D_x := Lib.hid (rx_at (show Rx W0 _ 31 (b) (.slice a n c) (.slice e m f) by rw [hW0]; exact Rx.new _ _ _ _ _) (show w.heap.size = _ by simp))
      have SZ := Lib.hid (show W0.heap.size = w.heap.size + 1 by rw [hW0]; simp)
      rw [← hW0]
      clear hW0
      have BB := Lib.hid (Below.refl W0.heap.size W0)
      refine (spec_bigOkB b _ zs _ (rowOf_below RA_x.out B.out)).mono ?_
      rw [HB.out]
      rintro e w1 ⟨rfl, bw1⟩
      replace B := Lib.hid (B.out.trans (bw1.mono B.out.size))
      replace BB := Lib.hid (BB.out.trans (bw1.mono BB.out.size))
      clear bw1
      have c0_x := (D_x.out.below BB.out).c0
      have c1_x := (D_x.out.below BB.out).c1
      have c2_x := (D_x.out.below BB.out).c2
      go_wp2_with fail
      clear c0_x c1_x c2_x
      refine (spec_natOk _ ds _ (rowOf_below RA_d.out B.out)).mono ?_
      rw [HD.out]
      rintro r w9 ⟨rfl, rfl⟩
      have c0_x := (D_x.out.below BB.out).c0
      have c1_x := (D_x.out.below BB.out).c1
      have c2_x := (D_x.out.below BB.out).c2
      go_wp2
      go_ret
      exact ⟨ret_bool (by first | rfl | (rw [HR.out]) | (simp; omega)), B.out⟩

    | true =>
      have HD := Lib.hid hd
      by_cases h9 : ¬ 0 < m
      · have HR := Lib.hid (show ratOk b zs ds = false from ratOk_len (by rw [HM.out, HN.out]; omega))
        rw [HR.out]
        clear hb hd
        have hq : ((m : Int) == 0) = true := by simp; omega
        go_enter Try.func18, Try.ntmps18
        go_wp2_with fail
        obtain ⟨W0, hW0⟩ : ∃ x, x = (w.alloc (.cells #[.bool b, .slice a n c, .slice e m f] 31)) := ⟨_, rfl⟩
        have B := Lib.hid (show Below w.heap.size w W0 by rw [hW0]; exact ((Below.refl _ _).alloc (Nat.le_refl _) _))
        have D_x := Lib.hid (rx_at (show Rx W0 _ 31 (b) (.slice a n c) (.slice e m f) by rw [hW0]; exact Rx.new _ _ _ _ _) (show w.heap.size = _ by simp))
        have SZ := Lib.hid (show W0.heap.size = w.heap.size + 1 by rw [hW0]; simp)
        rw [← hW0]
        clear hW0
        have BB := Lib.hid (Below.refl W0.heap.size W0)
        refine (spec_bigOkB b _ zs _ (rowOf_below RA_x.out B.out)).mono ?_
        rw [HB.out]
        rintro e w1 ⟨rfl, bw1⟩
        replace B := Lib.hid (B.out.trans (bw1.mono B.out.size))
        replace BB := Lib.hid (BB.out.trans (bw1.mono BB.out.size))
        clear bw1
        have c0_x := (D_x.out.below BB.out).c0
        have c1_x := (D_x.out.below BB.out).c1
        have c2_x := (D_x.out.below BB.out).c2
        go_wp2_with fail
        clear c0_x c1_x c2_x
        refine (spec_natOk _ ds _ (rowOf_below RA_d.out B.out)).mono ?_
        rw [HD.out]
        rintro r w9 ⟨rfl, rfl⟩
        have c0_x := (D_x.out.below BB.out).c0
        have c1_x := (D_x.out.below BB.out).c1
        have c2_x := (D_x.out.below BB.out).c2
        go_wp2
        go_ret
        exact ⟨ret_bool (by first | rfl | (rw [HR.out]) | (simp; omega)), B.out⟩

      have h0 : 0 < m := by omega
      have q0 : ((m : Int) == 0) = false := by simp; omega
      clear h9
      by_cases h9 : ¬ m ≤ 24
      · have HR := Lib.hid (show ratOk b zs ds = false from ratOk_len (by rw [HM.out, HN.out]; omega))
        rw [HR.out]
        clear hb hd
        have hq : decide (24 < (m : Int)) = true := by simp; omega
        go_enter Try.func18, Try.ntmps18
        go_wp2_with fail
        obtain ⟨W0, hW0⟩ : ∃ x, x = (w.alloc (.cells #[.bool b, .slice a n c, .slice e m f] 31)) := ⟨_, rfl⟩
        have B := Lib.hid (show Below w.heap.size w W0 by rw [hW0]; exact ((Below.refl _ _).alloc (Nat.le_refl _) _))
        have D_x := Lib.hid (rx_at (show Rx W0 _ 31 (b) (.slice a n c) (.slice e m f) by rw [hW0]; exact Rx.new _ _ _ _ _) (show w.heap.size = _ by simp))
        have SZ := Lib.hid (show W0.heap.size = w.heap.size + 1 by rw [hW0]; simp)
        rw [← hW0]
        clear hW0
        have BB := Lib.hid (Below.refl W0.heap.size W0)
        refine (spec_bigOkB b _ zs _ (rowOf_below RA_x.out B.out)).mono ?_
        rw [HB.out]
        rintro e w1 ⟨rfl, bw1⟩
        replace B := Lib.hid (B.out.trans (bw1.mono B.out.size))
        replace BB := Lib.hid (BB.out.trans (bw1.mono BB.out.size))
        clear bw1
        have c0_x := (D_x.out.below BB.out).c0
        have c1_x := (D_x.out.below BB.out).c1
        have c2_x := (D_x.out.below BB.out).c2
        go_wp2_with fail
        clear c0_x c1_x c2_x
        refine (spec_natOk _ ds _ (rowOf_below RA_d.out B.out)).mono ?_
        rw [HD.out]
        rintro r w9 ⟨rfl, rfl⟩
        have c0_x := (D_x.out.below BB.out).c0
        have c1_x := (D_x.out.below BB.out).c1
        have c2_x := (D_x.out.below BB.out).c2
        go_wp2
        go_ret
        exact ⟨ret_bool (by first | rfl | (rw [HR.out]) | (simp; omega)), B.out⟩

      have hm24 : m ≤ 24 := by omega
      have q1 : decide (24 < (m : Int)) = false := by simp; omega
      clear h9
      by_cases h9 : ¬ n ≤ 24
      · have HR := Lib.hid (show ratOk b zs ds = false from ratOk_len (by rw [HM.out, HN.out]; omega))
        rw [HR.out]
        clear hb hd
        have hq : decide (24 < (n : Int)) = true := by simp; omega
        go_enter Try.func18, Try.ntmps18
        go_wp2_with fail
        obtain ⟨W0, hW0⟩ : ∃ x, x = (w.alloc (.cells #[.bool b, .slice a n c, .slice e m f] 31)) := ⟨_, rfl⟩
        have B := Lib.hid (show Below w.heap.size w W0 by rw [hW0]; exact ((Below.refl _ _).alloc (Nat.le_refl _) _))
        have D_x := Lib.hid (rx_at (show Rx W0 _ 31 (b) (.slice a n c) (.slice e m f) by rw [hW0]; exact Rx.new _ _ _ _ _) (show w.heap.size = _ by simp))
        have SZ := Lib.hid (show W0.heap.size = w.heap.size + 1 by rw [hW0]; simp)
        rw [← hW0]
        clear hW0
        have BB := Lib.hid (Below.refl W0.heap.size W0)
        refine (spec_bigOkB b _ zs _ (rowOf_below RA_x.out B.out)).mono ?_
        rw [HB.out]
        rintro e w1 ⟨rfl, bw1⟩
        replace B := Lib.hid (B.out.trans (bw1.mono B.out.size))
        replace BB := Lib.hid (BB.out.trans (bw1.mono BB.out.size))
        clear bw1
        have c0_x := (D_x.out.below BB.out).c0
        have c1_x := (D_x.out.below BB.out).c1
        have c2_x := (D_x.out.below BB.out).c2
        go_wp2_with fail
        clear c0_x c1_x c2_x
        refine (spec_natOk _ ds _ (rowOf_below RA_d.out B.out)).mono ?_
        rw [HD.out]
        rintro r w9 ⟨rfl, rfl⟩
        have c0_x := (D_x.out.below BB.out).c0
        have c1_x := (D_x.out.below BB.out).c1
        have c2_x := (D_x.out.below BB.out).c2
        go_wp2
        go_ret
        exact ⟨ret_bool (by first | rfl | (rw [HR.out]) | (simp; omega)), B.out⟩

      have hn24 : n ≤ 24 := by omega
      have q2 : decide (24 < (n : Int)) = false := by simp; omega
      clear h9
      obtain ⟨x, hz, hx⟩ := okB_cases (bigOk_ok hb)
      obtain ⟨d, he, hd9⟩ := okB_cases hd
      have HX := Lib.hid (show nlen x ≤ 24 by rw [← limI_length, ← hz, HN.out]; exact hn24)
      have HY := Lib.hid (show nlen d ≤ 24 by rw [← limI_length, ← he, HM.out]; exact hm24)
      have HR := Lib.hid (show ratOk b zs ds = decide (Nat.gcd x d = 1) by
        have hz' := hz; have he' := he
        have h9 : 0 < d := (limI_pos d).1 (by rw [← he', HM.out]; exact h0)
        have hbx : b = true → 0 < x := fun hb' => by subst hb'; exact (limI_pos x).1 (by rw [← hz']; exact bigOk_pos hb)
        rw [hz', he']
        exact ratOk_make ((nlen_le_iff _ _).1 HX.out) ((nlen_le_iff _ _).1 HY.out) h9 hbx)
      rw [HR.out]
      have HZ := Lib.hid hz
      have HE := Lib.hid he
      clear hb hd hz hx he hd9
      go_enter Try.func18, Try.ntmps18
      go_wp2_with fail
      obtain ⟨W0, hW0⟩ : ∃ x, x = (w.alloc (.cells #[.bool b, .slice a n c, .slice e m f] 31)) := ⟨_, rfl⟩
      have B := Lib.hid (show Below w.heap.size w W0 by rw [hW0]; exact ((Below.refl _ _).alloc (Nat.le_refl _) _))
      have D_x := Lib.hid (rx_at (show Rx W0 _ 31 (b) (.slice a n c) (.slice e m f) by rw [hW0]; exact Rx.new _ _ _ _ _) (show w.heap.size = _ by simp))
      have SZ := Lib.hid (show W0.heap.size = w.heap.size + 1 by rw [hW0]; simp)
      rw [← hW0]
      clear hW0
      have BB := Lib.hid (Below.refl W0.heap.size W0)
      refine (spec_bigOkB b _ zs _ (rowOf_below RA_x.out B.out)).mono ?_
      rw [HB.out]
      rintro e w1 ⟨rfl, bw1⟩
      replace B := Lib.hid (B.out.trans (bw1.mono B.out.size))
      replace BB := Lib.hid (BB.out.trans (bw1.mono BB.out.size))
      clear bw1
      have c0_x := (D_x.out.below BB.out).c0
      have c1_x := (D_x.out.below BB.out).c1
      have c2_x := (D_x.out.below BB.out).c2
      go_wp2_with fail
      clear c0_x c1_x c2_x
      refine (spec_natOk _ ds _ (rowOf_below RA_d.out B.out)).mono ?_
      rw [HD.out]
      rintro r w9 ⟨rfl, rfl⟩
      have c0_x := (D_x.out.below BB.out).c0
      have c1_x := (D_x.out.below BB.out).c1
      have c2_x := (D_x.out.below BB.out).c2
      go_wp2_with fail
      clear c0_x c1_x c2_x
      refine (spec_gcd _ _ x d _ (row_cast (rowOf_below RA_x.out B.out) HZ.out) (row_cast (rowOf_below RA_d.out B.out) HE.out) (by have := HX.out; omega) (by have := HY.out; omega)).mono ?_
      rintro e w2 ⟨v_g, rfl, o_g, bw2⟩
      obtain ⟨a_g, c_g, rfl⟩ := o_g.slice
      have Q_g := Lib.hid o_g.row
      clear o_g
      replace B := Lib.hid (B.out.trans (bw2.mono B.out.size))
      replace BB := Lib.hid (BB.out.trans (bw2.mono BB.out.size))
      clear bw2
      have c0_x := (D_x.out.below BB.out).c0
      have c1_x := (D_x.out.below BB.out).c1
      have c2_x := (D_x.out.below BB.out).c2
      go_wp2_with fail
      clear c0_x c1_x c2_x
      refine (spec_isOne _ (Nat.gcd x d) _ Q_g.out).mono ?_
      rintro r w9 ⟨rfl, rfl⟩
      go_wp2
      go_ret
      exact ⟨ret_bool (by first | rfl | (rw [HR.out]) | (simp; omega)), B.out⟩

set_option maxHeartbeats 4000000 in
theorem law_ratOk (W : World) (ng0 : Bool) (v0 : Value) (zs0 : List Int) (h0 : RowOf iV W v0 zs0) (d0 : Value) (ds0 : List Int) (k0 : RowOf iV W d0 ds0) (_ : True) :
    Calls Try.prog 3 #[.agg #[.bool ng0, v0, d0]] W fun e w' => e = .returned (.bool true) ∧ Below W.heap.size W w' := by
  have R0 := Lib.hid (show RowR W v0 zs0 d0 ds0 from ⟨h0, k0⟩)
  obtain ⟨a0, c0, rfl, hc0, hm0, hr0⟩ := h0
  obtain ⟨e0, f0, rfl, kc0, km0, kr0⟩ := k0
  clear hr0 kr0
  unfold maxLen at hm0 km0
  obtain ⟨m0, hm0'⟩ : ∃ n, zs0.length = n := ⟨_, rfl⟩
  obtain ⟨p0, hp0'⟩ : ∃ n, ds0.length = n := ⟨_, rfl⟩
  rw [hm0'] at hc0 R0 ⊢
  rw [hp0'] at kc0 R0 ⊢
  have N0 := Lib.hid (And.intro hm0' hp0')
  clear hm0' hp0'
  by_cases hl0 : m0 + p0 ≤ 1048576
  rotate_left
  · go_enter Try.func3, Try.ntmps3
    go_wp2_with fail
    obtain ⟨W0, hW0⟩ : ∃ x, x = (W.alloc (.cells #[.bool ng0, .slice a0 m0 c0, .slice e0 p0 f0] 26)) := ⟨_, rfl⟩
    have B := Lib.hid (show Below W.heap.size W W0 by rw [hW0]; exact (Below.refl W.heap.size W).alloc (Nat.le_refl _) (.cells #[.bool ng0, .slice a0 m0 c0, .slice e0 p0 f0] 26))
    have D_a0 := Lib.hid (rx_at (show Rx W0 _ 26 ng0 (.slice a0 m0 c0) (.slice e0 p0 f0) by rw [hW0]; exact Rx.new _ _ _ _ _) (show W.heap.size = _ by simp))
    rw [← hW0]
    clear hW0
    refine (sz_rat_no ng0 a0 m0 c0 e0 p0 f0 (1048576) _ (by omega) (by omega)).mono ?_
    rintro e w1 ⟨rfl, bw1⟩
    replace D_a0 := Lib.hid (D_a0.out.below bw1)
    replace B := Lib.hid (B.out.trans (bw1.mono B.out.size))
    clear bw1
    go_wp2
    go_ret
    exact ⟨rfl, B.out⟩
  go_enter Try.func3, Try.ntmps3
  go_wp2_with fail
  obtain ⟨W0, hW0⟩ : ∃ x, x = (W.alloc (.cells #[.bool ng0, .slice a0 m0 c0, .slice e0 p0 f0] 26)) := ⟨_, rfl⟩
  have B := Lib.hid (show Below W.heap.size W W0 by rw [hW0]; exact (Below.refl W.heap.size W).alloc (Nat.le_refl _) (.cells #[.bool ng0, .slice a0 m0 c0, .slice e0 p0 f0] 26))
  have D_a0 := Lib.hid (rx_at (show Rx W0 _ 26 ng0 (.slice a0 m0 c0) (.slice e0 p0 f0) by rw [hW0]; exact Rx.new _ _ _ _ _) (show W.heap.size = _ by simp))
  rw [← hW0]
  clear hW0
  refine (sz_rat_yes ng0 a0 m0 c0 e0 p0 f0 (1048576) _ (by omega) (by omega)).mono ?_
  rintro e w1 ⟨rfl, bw1⟩
  replace D_a0 := Lib.hid (D_a0.out.below bw1)
  replace B := Lib.hid (B.out.trans (bw1.mono B.out.size))
  clear bw1
  have c0_a0 := D_a0.out.c0
  have c1_a0 := D_a0.out.c1
  have c2_a0 := D_a0.out.c2
  go_wp2_with fail
  clear c0_a0 c1_a0 c2_a0
  refine (to_ratsR _ zs0 _ ds0 _ (R0.out.below B.out) (by rw [N0.out.1]; omega) (by rw [N0.out.2]; omega)).mono ?_
  rintro e w2 ⟨v_t1, d_t1, rfl, o_t1, bw2⟩
  obtain ⟨a_t1, c_t1, e_t1, f_t1, rfl, rfl⟩ := o_t1.slices
  replace D_a0 := Lib.hid (D_a0.out.below bw2)
  replace B := Lib.hid (B.out.trans (bw2.mono B.out.size))
  have O_t1 := Lib.hid o_t1
  clear o_t1
  clear bw2
  go_wp2_with fail
  refine (spec_ratOk ng0 _ zs0 _ ds0 _ O_t1.out.row).mono ?_
  rintro e w3 ⟨rfl, bw3⟩
  replace O_t1 := Lib.hid (O_t1.out.below bw3)
  replace D_a0 := Lib.hid (D_a0.out.below bw3)
  replace B := Lib.hid (B.out.trans (bw3.mono B.out.size))
  clear bw3
  clear O_t1
  have c0_a0 := D_a0.out.c0
  have c1_a0 := D_a0.out.c1
  have c2_a0 := D_a0.out.c2
  go_wp2_with fail
  clear c0_a0 c1_a0 c2_a0
  refine (to_ratsR _ zs0 _ ds0 _ (R0.out.below B.out) (by rw [N0.out.1]; omega) (by rw [N0.out.2]; omega)).mono ?_
  rintro e w4 ⟨v_t2, d_t2, rfl, o_t2, bw4⟩
  obtain ⟨a_t2, c_t2, e_t2, f_t2, rfl, rfl⟩ := o_t2.slices
  replace D_a0 := Lib.hid (D_a0.out.below bw4)
  replace B := Lib.hid (B.out.trans (bw4.mono B.out.size))
  have O_t2 := Lib.hid o_t2
  clear o_t2
  clear bw4
  have hz := B.out.size
  go_wp2_with fail
  clear hz
  obtain ⟨w5, hW0⟩ : ∃ x, x = w4.alloc (.cells #[.bool (ng0), .slice a_t2 (zs0).length c_t2, .slice e_t2 (ds0).length f_t2] 31) := ⟨_, rfl⟩
  replace O_t2 := Lib.hid (show OwnR w5 _ _ _ _ _ by rw [hW0]; exact O_t2.out.alloc _)
  replace D_a0 := Lib.hid (show Rx w5 _ _ _ _ _ by rw [hW0]; exact D_a0.out.alloc _)
  have D_t2 := Lib.hid (show Rx w5 w4.heap.size 31 (ng0) (.slice a_t2 (zs0).length c_t2) (.slice e_t2 (ds0).length f_t2) by rw [hW0]; exact Rx.new _ _ _ _ _)
  replace B := Lib.hid (show Below W.heap.size W w5 by rw [hW0]; exact B.out.alloc B.out.size _)
  rw [← hW0]
  clear hW0
  refine (impl_ratOk ng0 _ zs0 _ ds0 _ O_t2.out.row).mono ?_
  rintro e w6 ⟨rfl, bw6⟩
  replace O_t2 := Lib.hid (O_t2.out.below bw6)
  replace D_a0 := Lib.hid (D_a0.out.below bw6)
  replace D_t2 := Lib.hid (D_t2.out.below bw6)
  replace B := Lib.hid (B.out.trans (bw6.mono B.out.size))
  clear bw6
  go_wp2_with fail
  have c0_t2 := D_t2.out.c0
  have c1_t2 := D_t2.out.c1
  have c2_t2 := D_t2.out.c2
  have lt_t2 := D_t2.out.lt
  have c0_a0 := D_a0.out.c0
  have c1_a0 := D_a0.out.c1
  have c2_a0 := D_a0.out.c2
  have lt_a0 := D_a0.out.lt
  go_region_held3 (fun w' => w'.cell? ⟨w4.heap.size, 0, none⟩ = some (.bool (ng0)) ∧ w'.cell? ⟨w4.heap.size, 1, none⟩ = some (.slice a_t2 (zs0).length c_t2) ∧ w'.cell? ⟨w4.heap.size, 2, none⟩ = some (.slice e_t2 (ds0).length f_t2) ∧ w'.cell? ⟨W.heap.size, 0, none⟩ = some (.bool ng0) ∧ w'.cell? ⟨W.heap.size, 1, none⟩ = some (.slice a0 m0 c0) ∧ w'.cell? ⟨W.heap.size, 2, none⟩ = some (.slice e0 p0 f0)) (first | exact ⟨g8_0_t2, g8_1_t2, g8_2_t2, g8_0_a0, g8_1_a0, g8_2_a0⟩ | exact ⟨g7_0_t2, g7_1_t2, g7_2_t2, g7_0_a0, g7_1_a0, g7_2_a0⟩ | exact ⟨c0_t2, c1_t2, c2_t2, c0_a0, c1_a0, c2_a0⟩)
    (first
      | (have := bb7; go_at_call 21; refine (eq_ratsR _ _ _ _ _ _ _ (O_t2.out.row.below bb7) o_t3.row).mono ?_; rintro e w8 ⟨rfl, bw8⟩; have bb8 : Below w6.heap.size w6 w8 := bb7.trans (bw8.mono bb7.size); have g8_0_t2 := (bb8.cell (p := ⟨w4.heap.size, 0, none⟩) lt_t2).trans c0_t2; have g8_1_t2 := (bb8.cell (p := ⟨w4.heap.size, 1, none⟩) lt_t2).trans c1_t2; have g8_2_t2 := (bb8.cell (p := ⟨w4.heap.size, 2, none⟩) lt_t2).trans c2_t2; have g8_0_a0 := (bb8.cell (p := ⟨W.heap.size, 0, none⟩) lt_a0).trans c0_a0; have g8_1_a0 := (bb8.cell (p := ⟨W.heap.size, 1, none⟩) lt_a0).trans c1_a0; have g8_2_a0 := (bb8.cell (p := ⟨W.heap.size, 2, none⟩) lt_a0).trans c2_a0)
      | (go_at_call 19; refine (to_ratsR _ zs0 _ ds0 _ (R0.out.below (B.out.trans (Below.mono (by first | exact Below.refl _ _ | exact (Below.refl _ _).drew) B.out.size))) (by rw [N0.out.1]; omega) (by rw [N0.out.2]; omega)).mono ?_; rintro e w7 ⟨v_t3, d_t3, rfl, o_t3, bw7⟩; obtain ⟨a_t3, c_t3, e_t3, f_t3, rfl, rfl⟩ := o_t3.slices; have bb7 : Below w6.heap.size w6 w7 := (by first | exact bw7 | exact ((Below.refl _ _).drew).trans bw7); have g7_0_t2 := (bb7.cell (p := ⟨w4.heap.size, 0, none⟩) lt_t2).trans c0_t2; have g7_1_t2 := (bb7.cell (p := ⟨w4.heap.size, 1, none⟩) lt_t2).trans c1_t2; have g7_2_t2 := (bb7.cell (p := ⟨w4.heap.size, 2, none⟩) lt_t2).trans c2_t2; have g7_0_a0 := (bb7.cell (p := ⟨W.heap.size, 0, none⟩) lt_a0).trans c0_a0; have g7_1_a0 := (bb7.cell (p := ⟨W.heap.size, 1, none⟩) lt_a0).trans c1_a0; have g7_2_a0 := (bb7.cell (p := ⟨W.heap.size, 2, none⟩) lt_a0).trans c2_a0))
  clear bw7
  have bw7 := bb7
  replace o_t3 : OwnR w7 w6.heap.size _ _ _ _ := o_t3
  replace O_t2 := Lib.hid (O_t2.out.below bw7)
  replace D_a0 := Lib.hid (D_a0.out.below bw7)
  replace D_t2 := Lib.hid (D_t2.out.below bw7)
  replace B := Lib.hid (B.out.trans (bw7.mono B.out.size))
  have O_t3 := Lib.hid o_t3
  clear o_t3
  clear bw7
  clear g7_0_t2 g7_1_t2 g7_2_t2
  clear g7_0_a0 g7_1_a0 g7_2_a0
  replace O_t2 := Lib.hid (O_t2.out.below bw8)
  replace O_t3 := Lib.hid (O_t3.out.below bw8)
  replace D_a0 := Lib.hid (D_a0.out.below bw8)
  replace D_t2 := Lib.hid (D_t2.out.below bw8)
  replace B := Lib.hid (B.out.trans (bw8.mono B.out.size))
  clear bw8
  clear g8_0_t2 g8_1_t2 g8_2_t2
  clear g8_0_a0 g8_1_a0 g8_2_a0
  clear bb7 bb8
  clear c0_t2 c1_t2 c2_t2 lt_t2
  clear c0_a0 c1_a0 c2_a0 lt_a0
  clear O_t3
  go_wp2
  go_ret
  exact ⟨rfl, B.out⟩



end Go.Proofs.Ytgoonbjhfbnaiaa
