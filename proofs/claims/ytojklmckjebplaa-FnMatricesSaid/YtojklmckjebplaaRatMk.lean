/- RatMake of the program and of the model. -/
import Derived.Test.YtojklmckjebplaaSpecLow
namespace Go.Proofs.Ytojklmckjebplaa
open Go.RowKit Go.WideShapes Go.ChangeShapes
set_option linter.unusedVariables false
set_option linter.unusedSimpArgs false

def ratMakeB (b0 : Bool) (zs0 : List Int) (b1 : Bool) (zs1 : List Int) : Bool := if bigOk b0 zs0 && bigOk b1 zs1 then mkB (!(b0 == b1)) (lowX (natI zs0) (natI zs1)) (lowD (natI zs0) (natI zs1)) else false
def ratMakeZ (b0 : Bool) (zs0 : List Int) (b1 : Bool) (zs1 : List Int) : List Int := if bigOk b0 zs0 && bigOk b1 zs1 then mkZ (lowX (natI zs0) (natI zs1)) (lowD (natI zs0) (natI zs1)) else []
def ratMakeD (b0 : Bool) (zs0 : List Int) (b1 : Bool) (zs1 : List Int) : List Int := if bigOk b0 zs0 && bigOk b1 zs1 then mkD (lowX (natI zs0) (natI zs1)) (lowD (natI zs0) (natI zs1)) else []
theorem ratMakeZ_len (b0 : Bool) (zs0 : List Int) (b1 : Bool) (zs1 : List Int) : (ratMakeZ b0 zs0 b1 zs1).length ≤ 1000 := by
  unfold ratMakeZ; split
  · exact Nat.le_trans (mkZ_len _ _) (by omega)
  · simp
theorem ratMakeD_len (b0 : Bool) (zs0 : List Int) (b1 : Bool) (zs1 : List Int) : (ratMakeD b0 zs0 b1 zs1).length ≤ 1000 := by
  unfold ratMakeD; split
  · exact Nat.le_trans (mkD_len _ _) (by omega)
  · simp
theorem ratMake_no {b0 : Bool} {zs0 : List Int} {b1 : Bool} {zs1 : List Int} (h : bigOk b0 zs0 = false ∨ bigOk b1 zs1 = false) : ratMakeB b0 zs0 b1 zs1 = false ∧ ratMakeZ b0 zs0 b1 zs1 = [] ∧ ratMakeD b0 zs0 b1 zs1 = [] := by
  unfold ratMakeB ratMakeZ ratMakeD; rcases h with h | h <;> rw [h] <;> simp
theorem ratMake_yes {b0 : Bool} {x : Nat} {b1 : Bool} {y : Nat} (h0 : bigOk b0 (limI x) = true) (h1 : bigOk b1 (limI y) = true) : ratMakeB b0 (limI x) b1 (limI y) = mkB (!(b0 == b1)) (lowX x y) (lowD x y) ∧ ratMakeZ b0 (limI x) b1 (limI y) = mkZ (lowX x y) (lowD x y) ∧ ratMakeD b0 (limI x) b1 (limI y) = mkD (lowX x y) (lowD x y) := by
  unfold ratMakeB ratMakeZ ratMakeD; rw [h0, h1, natI_limI, natI_limI]; exact ⟨rfl, rfl, rfl⟩
theorem spec_bigOkR (b : Bool) (v : Value) (zs : List Int) (q : Bool) (w : World) (h : RowOf iV w v zs) (hq : bigOk b zs = q) :
    Calls Try.prog 90 #[.agg #[.bool b, v]] w fun r w' => r = .returned (.bool q) ∧ Below w.heap.size w w' := by rw [← hq]; exact spec_bigOkB b v zs w h
theorem impl_bigOkR (b : Bool) (v : Value) (zs : List Int) (q : Bool) (w : World) (h : RowOf iV w v zs) (hq : bigOk b zs = q) :
    Calls Try.prog 117 #[.agg #[.bool b, v]] w fun r w' => r = .returned (.bool q) ∧ Below w.heap.size w w' := by rw [← hq]; exact impl_bigOkB b v zs w h


set_option maxRecDepth 100000 in
set_option maxHeartbeats 2000000 in
theorem spec_ratMake (b0 : Bool) (v0 : Value) (zs0 : List Int) (b1 : Bool) (v1 : Value) (zs1 : List Int) (w : World) (h0 : RowOf iV w v0 zs0) (h1 : RowOf iV w v1 zs1) :
    Calls Try.prog 142 #[.agg #[.bool b0, v0], .agg #[.bool b1, v1]] w fun r w' => ∃ v dd, r = .returned (.agg #[.bool (ratMakeB b0 zs0 b1 zs1), v, dd]) ∧ OwnR w' w.heap.size v (ratMakeZ b0 zs0 b1 zs1) dd (ratMakeD b0 zs0 b1 zs1) ∧ Below w.heap.size w w' := by
  have RA_x := Lib.hid h0
  have RA_y := Lib.hid h1
  cases q0 : bigOk b0 zs0 with
  | false =>
    have HE := ratMake_no (b1 := b1) (zs1 := zs1) (.inl q0)
    rw [HE.1, HE.2.1, HE.2.2]
    have E0 := Lib.hid q0
    clear HE q0
    obtain ⟨a0, c0, rfl, z1, z2, z3⟩ := h0
    clear z1 z2 z3
    obtain ⟨a1, c1, rfl, z1, z2, z3⟩ := h1
    clear z1 z2 z3
    obtain ⟨nx, hnx⟩ : ∃ n, zs0.length = n := ⟨_, rfl⟩
    rw [hnx] at RA_x
    try rw [hnx]
    have Nnx := Lib.hid hnx
    clear hnx
    obtain ⟨ny, hny⟩ : ∃ n, zs1.length = n := ⟨_, rfl⟩
    rw [hny] at RA_y
    try rw [hny]
    have Nny := Lib.hid hny
    clear hny
    go_enter Try.func142, Try.ntmps142
    go_wp2_with fail
    obtain ⟨W0, hW0⟩ : ∃ x, x = (((w.alloc (.cells #[.bool b0, .slice a0 nx c0] 40)).alloc (.cells #[.bool b1, .slice a1 ny c1] 40)).alloc (.cells #[.bool false, .slice none 0 0, .slice none 0 0] 42)) := ⟨_, rfl⟩
    have B := Lib.hid (show Below w.heap.size w W0 by rw [hW0]; exact ((((Below.refl _ _).alloc (Nat.le_refl _) _).alloc (by simp) _).alloc (by simp; omega) _))
    have D_x := Lib.hid (bx_at (show Bx W0 _ 40 (b0) (.slice a0 nx c0) by rw [hW0]; exact ((Bx.new _ _ _ _).alloc _).alloc _) (show w.heap.size = _ by simp))
    have D_y := Lib.hid (bx_at (show Bx W0 _ 40 (b1) (.slice a1 ny c1) by rw [hW0]; exact (Bx.new _ _ _ _).alloc _) (show (w.heap.size + 1) = _ by simp))
    have D_r := Lib.hid (rx_at (show Rx W0 _ 42 (false) (.slice none 0 0) (.slice none 0 0) by rw [hW0]; exact Rx.new _ _ _ _ _) (show (w.heap.size + 1 + 1) = _ by simp))
    have SZ := Lib.hid (show W0.heap.size = w.heap.size + 1 + 1 + 1 by rw [hW0]; simp)
    rw [← hW0]
    clear hW0
    have BB := Lib.hid (Below.refl W0.heap.size W0)
    refine (spec_bigOkR b0 _ zs0 _ _ (rowOf_below RA_x.out B.out) E0.out).mono ?_
    rintro e w1 ⟨rfl, bw1⟩
    replace B := Lib.hid (B.out.trans (bw1.mono B.out.size))
    replace BB := Lib.hid (BB.out.trans (bw1.mono BB.out.size))
    clear bw1
    have c0_r := (D_r.out.below BB.out).c0
    have c1_r := (D_r.out.below BB.out).c1
    have c2_r := (D_r.out.below BB.out).c2
    have f0_r := (D_r.out.below BB.out).f 0
    have f1_r := (D_r.out.below BB.out).f 1
    have f2_r := (D_r.out.below BB.out).f 2
    obtain ⟨e1, e2⟩ := rat_end (b' := false) B.out (D_r.out.below BB.out) (OwnR.nil _ W0.heap.size) (by decide) (by have := SZ.out; omega) (by omega) (.slice none 0 0) (.slice none 0 0)
    have D8 := Rx.set3 (b' := false) (v' := .slice none 0 0) (d' := .slice none 0 0) (D_r.out.below BB.out)
    have hc0 := D8.c0; have hc1 := D8.c1; have hc2 := D8.c2
    go_wp2
    exact bodyPost_ret (v := .agg #[.bool (false), .slice none 0 0, .slice none 0 0]) (by simp [results, Try.results142, go_sem, hc0, hc1, hc2]) rfl ⟨_, _, rfl, e1, e2⟩

  | true =>
    cases q1 : bigOk b1 zs1 with
    | false =>
      have HE := ratMake_no (b0 := b0) (zs0 := zs0) (.inr q1)
      rw [HE.1, HE.2.1, HE.2.2]
      have E0 := Lib.hid q0
      have E1 := Lib.hid q1
      clear HE q0 q1
      obtain ⟨a0, c0, rfl, z1, z2, z3⟩ := h0
      clear z1 z2 z3
      obtain ⟨a1, c1, rfl, z1, z2, z3⟩ := h1
      clear z1 z2 z3
      obtain ⟨nx, hnx⟩ : ∃ n, zs0.length = n := ⟨_, rfl⟩
      rw [hnx] at RA_x
      try rw [hnx]
      have Nnx := Lib.hid hnx
      clear hnx
      obtain ⟨ny, hny⟩ : ∃ n, zs1.length = n := ⟨_, rfl⟩
      rw [hny] at RA_y
      try rw [hny]
      have Nny := Lib.hid hny
      clear hny
      go_enter Try.func142, Try.ntmps142
      go_wp2_with fail
      obtain ⟨W0, hW0⟩ : ∃ x, x = (((w.alloc (.cells #[.bool b0, .slice a0 nx c0] 40)).alloc (.cells #[.bool b1, .slice a1 ny c1] 40)).alloc (.cells #[.bool false, .slice none 0 0, .slice none 0 0] 42)) := ⟨_, rfl⟩
      have B := Lib.hid (show Below w.heap.size w W0 by rw [hW0]; exact ((((Below.refl _ _).alloc (Nat.le_refl _) _).alloc (by simp) _).alloc (by simp; omega) _))
      have D_x := Lib.hid (bx_at (show Bx W0 _ 40 (b0) (.slice a0 nx c0) by rw [hW0]; exact ((Bx.new _ _ _ _).alloc _).alloc _) (show w.heap.size = _ by simp))
      have D_y := Lib.hid (bx_at (show Bx W0 _ 40 (b1) (.slice a1 ny c1) by rw [hW0]; exact (Bx.new _ _ _ _).alloc _) (show (w.heap.size + 1) = _ by simp))
      have D_r := Lib.hid (rx_at (show Rx W0 _ 42 (false) (.slice none 0 0) (.slice none 0 0) by rw [hW0]; exact Rx.new _ _ _ _ _) (show (w.heap.size + 1 + 1) = _ by simp))
      have SZ := Lib.hid (show W0.heap.size = w.heap.size + 1 + 1 + 1 by rw [hW0]; simp)
      rw [← hW0]
      clear hW0
      have BB := Lib.hid (Below.refl W0.heap.size W0)
      refine (spec_bigOkR b0 _ zs0 _ _ (rowOf_below RA_x.out B.out) E0.out).mono ?_
      rintro e w1 ⟨rfl, bw1⟩
      replace B := Lib.hid (B.out.trans (bw1.mono B.out.size))
      replace BB := Lib.hid (BB.out.trans (bw1.mono BB.out.size))
      clear bw1
      have c0_y := (D_y.out.below BB.out).c0
      have c1_y := (D_y.out.below BB.out).c1
      go_wp2_with fail
      clear c0_y c1_y
      refine (spec_bigOkR b1 _ zs1 _ _ (rowOf_below RA_y.out B.out) E1.out).mono ?_
      rintro e w2 ⟨rfl, bw2⟩
      replace B := Lib.hid (B.out.trans (bw2.mono B.out.size))
      replace BB := Lib.hid (BB.out.trans (bw2.mono BB.out.size))
      clear bw2
      have c0_r := (D_r.out.below BB.out).c0
      have c1_r := (D_r.out.below BB.out).c1
      have c2_r := (D_r.out.below BB.out).c2
      have f0_r := (D_r.out.below BB.out).f 0
      have f1_r := (D_r.out.below BB.out).f 1
      have f2_r := (D_r.out.below BB.out).f 2
      obtain ⟨e1, e2⟩ := rat_end (b' := false) B.out (D_r.out.below BB.out) (OwnR.nil _ W0.heap.size) (by decide) (by have := SZ.out; omega) (by omega) (.slice none 0 0) (.slice none 0 0)
      have D8 := Rx.set3 (b' := false) (v' := .slice none 0 0) (d' := .slice none 0 0) (D_r.out.below BB.out)
      have hc0 := D8.c0; have hc1 := D8.c1; have hc2 := D8.c2
      go_wp2
      exact bodyPost_ret (v := .agg #[.bool (false), .slice none 0 0, .slice none 0 0]) (by simp [results, Try.results142, go_sem, hc0, hc1, hc2]) rfl ⟨_, _, rfl, e1, e2⟩

    | true =>
      obtain ⟨x, rfl, hx⟩ := okB_cases (bigOk_ok q0)
      obtain ⟨y, rfl, hy⟩ := okB_cases (bigOk_ok q1)
      have HE := ratMake_yes q0 q1
      rw [HE.1, HE.2.1, HE.2.2]
      have E0 := Lib.hid q0
      have E1 := Lib.hid q1
      have PX := Lib.hid hx
      have PY := Lib.hid hy
      have B_x := Lib.hid ((nlen_le_iff _ _).2 hx)
      have B_y := Lib.hid ((nlen_le_iff _ _).2 hy)
      clear HE q0 q1 hx hy
      obtain ⟨a0, c0, rfl, z1, z2, z3⟩ := h0
      clear z1 z2 z3
      obtain ⟨a1, c1, rfl, z1, z2, z3⟩ := h1
      clear z1 z2 z3
      obtain ⟨nx, hnx⟩ : ∃ n, (limI x).length = n := ⟨_, rfl⟩
      rw [hnx] at RA_x
      try rw [hnx]
      have Nnx := Lib.hid hnx
      clear hnx
      obtain ⟨ny, hny⟩ : ∃ n, (limI y).length = n := ⟨_, rfl⟩
      rw [hny] at RA_y
      try rw [hny]
      have Nny := Lib.hid hny
      clear hny
      obtain ⟨SS, hSS⟩ : ∃ s, (!(b0 == b1)) = s := ⟨_, rfl⟩
      obtain ⟨XX, hXX⟩ : ∃ s, lowX x y = s := ⟨_, rfl⟩
      obtain ⟨DD, hDD⟩ : ∃ s, lowD x y = s := ⟨_, rfl⟩
      have HX := Lib.hid hXX
      have HD := Lib.hid hDD
      rw [hSS, hXX, hDD]
      clear hXX hDD
      go_enter Try.func142, Try.ntmps142
      go_wp2_with fail
      obtain ⟨W0, hW0⟩ : ∃ x, x = (((w.alloc (.cells #[.bool b0, .slice a0 nx c0] 40)).alloc (.cells #[.bool b1, .slice a1 ny c1] 40)).alloc (.cells #[.bool false, .slice none 0 0, .slice none 0 0] 42)) := ⟨_, rfl⟩
      have B := Lib.hid (show Below w.heap.size w W0 by rw [hW0]; exact ((((Below.refl _ _).alloc (Nat.le_refl _) _).alloc (by simp) _).alloc (by simp; omega) _))
      have D_x := Lib.hid (bx_at (show Bx W0 _ 40 (b0) (.slice a0 nx c0) by rw [hW0]; exact ((Bx.new _ _ _ _).alloc _).alloc _) (show w.heap.size = _ by simp))
      have D_y := Lib.hid (bx_at (show Bx W0 _ 40 (b1) (.slice a1 ny c1) by rw [hW0]; exact (Bx.new _ _ _ _).alloc _) (show (w.heap.size + 1) = _ by simp))
      have D_r := Lib.hid (rx_at (show Rx W0 _ 42 (false) (.slice none 0 0) (.slice none 0 0) by rw [hW0]; exact Rx.new _ _ _ _ _) (show (w.heap.size + 1 + 1) = _ by simp))
      have SZ := Lib.hid (show W0.heap.size = w.heap.size + 1 + 1 + 1 by rw [hW0]; simp)
      rw [← hW0]
      clear hW0
      have BB := Lib.hid (Below.refl W0.heap.size W0)
      refine (spec_bigOkR b0 _ (limI x) _ _ (rowOf_below RA_x.out B.out) E0.out).mono ?_
      rintro e w1 ⟨rfl, bw1⟩
      replace B := Lib.hid (B.out.trans (bw1.mono B.out.size))
      replace BB := Lib.hid (BB.out.trans (bw1.mono BB.out.size))
      clear bw1
      have c0_y := (D_y.out.below BB.out).c0
      have c1_y := (D_y.out.below BB.out).c1
      go_wp2_with fail
      clear c0_y c1_y
      refine (spec_bigOkR b1 _ (limI y) _ _ (rowOf_below RA_y.out B.out) E1.out).mono ?_
      rintro e w2 ⟨rfl, bw2⟩
      replace B := Lib.hid (B.out.trans (bw2.mono B.out.size))
      replace BB := Lib.hid (BB.out.trans (bw2.mono BB.out.size))
      clear bw2
      have c0_x := (D_x.out.below BB.out).c0
      have c1_x := (D_x.out.below BB.out).c1
      have c0_y := (D_y.out.below BB.out).c0
      have c1_y := (D_y.out.below BB.out).c1
      go_wp2_with fail
      clear c0_x c1_x
      clear c0_y c1_y
      have hc9 := spec_low SS _ x _ y w2 (rowOf_below RA_x.out B.out) (rowOf_below RA_y.out B.out) PX.out PY.out
      rw [HX.out, HD.out] at hc9
      refine (hc9).mono ?_
      rintro e w3 ⟨v_q, d_q, rfl, u_q, bw3⟩
      obtain ⟨a_q, c_q, e_q, f_q, rfl, rfl⟩ := u_q.slices
      have hb5 := BB.out.size
      replace B := Lib.hid (B.out.trans (bw3.mono B.out.size))
      replace BB := Lib.hid (BB.out.trans (bw3.mono BB.out.size))
      clear bw3
      have c0_r := (D_r.out.below BB.out).c0
      have c1_r := (D_r.out.below BB.out).c1
      have c2_r := (D_r.out.below BB.out).c2
      have f0_r := (D_r.out.below BB.out).f 0
      have f1_r := (D_r.out.below BB.out).f 1
      have f2_r := (D_r.out.below BB.out).f 2
      obtain ⟨e1, e2⟩ := rat_end (b' := mkB SS XX DD) B.out (D_r.out.below BB.out) (OwnR.base (B' := W0.heap.size) u_q hb5) (by decide) (by have := SZ.out; omega) (by omega) (.slice a_q (mkZ XX DD).length c_q) (.slice e_q (mkD XX DD).length f_q)
      have D8 := Rx.set3 (b' := mkB SS XX DD) (v' := .slice a_q (mkZ XX DD).length c_q) (d' := .slice e_q (mkD XX DD).length f_q) (D_r.out.below BB.out)
      have hc0 := D8.c0; have hc1 := D8.c1; have hc2 := D8.c2
      go_wp2
      exact bodyPost_ret (v := .agg #[.bool (mkB SS XX DD), .slice a_q (mkZ XX DD).length c_q, .slice e_q (mkD XX DD).length f_q]) (by simp [results, Try.results142, go_sem, hc0, hc1, hc2]) rfl ⟨_, _, rfl, e1, e2⟩


end Go.Proofs.Ytojklmckjebplaa
