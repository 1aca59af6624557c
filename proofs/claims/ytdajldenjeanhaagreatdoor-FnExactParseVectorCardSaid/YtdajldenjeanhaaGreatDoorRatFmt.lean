/- FormatRat of the program and of the model. -/
import Derived.Test.YtdajldenjeanhaaGreatDoorPre
import Derived.Test.YtdajldenjeanhaaGreatDoorRatOk
import Derived.Test.YtdajldenjeanhaaGreatDoorBigFmtLaw
namespace Go.Proofs.YtdajldenjeanhaaGreatDoor
open Go.RowKit Go.WideShapes Go.ChangeShapes
set_option linter.unusedVariables false
set_option linter.unusedSimpArgs false

def ratText (b : Bool) (zs ds : List Int) : ByteArray := if ratOk b zs ds then (if natI ds = 1 then bigText b zs else bigText b zs ++ ⟨#[47]⟩ ++ natText ds) else ⟨#[]⟩
theorem ratText_no {b : Bool} {zs ds : List Int} (h : ratOk b zs ds = false) : ratText b zs ds = ⟨#[]⟩ := by unfold ratText; rw [h]; rfl
theorem ratText_one {b : Bool} {zs : List Int} {d : Nat} (h : ratOk b zs (limI d) = true) (h1 : d = 1) : ratText b zs (limI d) = bigText b zs := by unfold ratText; rw [h, natI_limI, if_pos rfl, if_pos h1]
theorem ratText_more {b : Bool} {zs : List Int} {d : Nat} (h : ratOk b zs (limI d) = true) (h1 : ¬ d = 1) : ratText b zs (limI d) = bigText b zs ++ ⟨#[47]⟩ ++ natText (limI d) := by unfold ratText; rw [h, natI_limI, if_pos rfl, if_neg h1]
theorem bigText_size (b : Bool) (zs : List Int) : (bigText b zs).size ≤ 1001 := by
  have h := natText_size zs
  unfold bigText
  split
  · split
    · rw [ByteArray.size_append]; show 1 + _ ≤ _; omega
    · omega
  · show 0 ≤ 1001; omega
theorem spec_ratOkQ (b : Bool) (v : Value) (zs : List Int) (d : Value) (ds : List Int) (q : Bool) (w : World) (h : RowR w v zs d ds) (hq : ratOk b zs ds = q) :
    Calls Tryz.prog 31 #[.agg #[.bool b, v, d]] w fun r w' => r = .returned (.bool q) ∧ Below w.heap.size w w' := by rw [← hq]; exact spec_ratOk b v zs d ds w h
theorem impl_ratOkQ (b : Bool) (v : Value) (zs : List Int) (d : Value) (ds : List Int) (q : Bool) (w : World) (h : RowR w v zs d ds) (hq : ratOk b zs ds = q) :
    Calls Tryz.prog 37 #[.agg #[.bool b, v, d]] w fun r w' => r = .returned (.bool q) ∧ Below w.heap.size w w' := by rw [← hq]; exact impl_ratOk b v zs d ds w h


set_option maxRecDepth 100000 in
set_option maxHeartbeats 1000000 in
theorem spec_ratFormat (b0 : Bool) (v0 : Value) (zs0 : List Int) (d0 : Value) (ds0 : List Int) (w : World) (h0 : RowR w v0 zs0 d0 ds0) :
    Calls Tryz.prog 16 #[.agg #[.bool b0, v0, d0]] w fun r w' => r = .returned (.string (ratText b0 zs0 ds0)) ∧ Below w.heap.size w w' := by
  cases q0 : ratOk b0 zs0 ds0 with
  | false =>
    rw [ratText_no q0]
    have E0 := Lib.hid q0
    clear q0
    have H0 := Lib.hid h0
    obtain ⟨⟨a0, c0, rfl, z1, z2, z3⟩, ⟨e0, f0, rfl, z4, z5, z6⟩⟩ := h0
    clear z1 z2 z3 z4 z5 z6
    obtain ⟨nx, hnx⟩ : ∃ n, zs0.length = n := ⟨_, rfl⟩
    rw [hnx] at H0
    try rw [hnx]
    have Nnx := Lib.hid hnx
    clear hnx
    obtain ⟨nd, hnd⟩ : ∃ n, ds0.length = n := ⟨_, rfl⟩
    rw [hnd] at H0
    try rw [hnd]
    have Nnd := Lib.hid hnd
    clear hnd
    go_enter Tryz.func16, Tryz.ntmps16
    go_wp2_with fail
    obtain ⟨W0, hW0⟩ : ∃ x, x = (w.alloc (.cells #[.bool b0, .slice a0 nx c0, .slice e0 nd f0] 43)) := ⟨_, rfl⟩
    have B := Lib.hid (show Below w.heap.size w W0 by rw [hW0]; exact ((Below.refl _ _).alloc (Nat.le_refl _) _))
    have D_x := Lib.hid (rx_at (show Rx W0 _ 43 (b0) (.slice a0 nx c0) (.slice e0 nd f0) by rw [hW0]; exact Rx.new _ _ _ _ _) (show w.heap.size = _ by simp))
    have SZ := Lib.hid (show W0.heap.size = w.heap.size + 1 by rw [hW0]; simp)
    rw [← hW0]
    clear hW0
    have BB := Lib.hid (Below.refl W0.heap.size W0)
    refine (spec_ratOkQ b0 _ zs0 _ ds0 _ _ (H0.out.below B.out) E0.out).mono ?_
    rintro e w1 ⟨rfl, bw1⟩
    replace B := Lib.hid (B.out.trans (bw1.mono B.out.size))
    replace BB := Lib.hid (BB.out.trans (bw1.mono BB.out.size))
    clear bw1
    go_wp2
    go_ret
    exact ⟨rfl, B.out⟩

  | true =>
    obtain ⟨x, d, rfl, rfl, hx, hd, hd0, g0, n0⟩ := ratOk_parts q0
    have E0 := Lib.hid q0
    clear hx hd hd0 g0 n0
    by_cases h1 : d = 1
    · have D1 := Lib.hid (decide_eq_true h1)
      rw [ratText_one q0 h1]
      clear q0 h1
      have hs1 := bigText_size b0 (limI x)
      have hs2 := natText_size (limI d)
      obtain ⟨tx, htx⟩ : ∃ t, bigText b0 (limI x) = t := ⟨_, rfl⟩
      have TX := Lib.hid htx
      rw [htx] at hs1 ⊢
      clear htx
      have H0 := Lib.hid h0
      obtain ⟨⟨a0, c0, rfl, z1, z2, z3⟩, ⟨e0, f0, rfl, z4, z5, z6⟩⟩ := h0
      clear z1 z2 z3 z4 z5 z6
      obtain ⟨nx, hnx⟩ : ∃ n, (limI x).length = n := ⟨_, rfl⟩
      rw [hnx] at H0
      try rw [hnx]
      have Nnx := Lib.hid hnx
      clear hnx
      obtain ⟨nd, hnd⟩ : ∃ n, (limI d).length = n := ⟨_, rfl⟩
      rw [hnd] at H0
      try rw [hnd]
      have Nnd := Lib.hid hnd
      clear hnd
      go_enter Tryz.func16, Tryz.ntmps16
      go_wp2_with fail
      obtain ⟨W0, hW0⟩ : ∃ x, x = (w.alloc (.cells #[.bool b0, .slice a0 nx c0, .slice e0 nd f0] 43)) := ⟨_, rfl⟩
      have B := Lib.hid (show Below w.heap.size w W0 by rw [hW0]; exact ((Below.refl _ _).alloc (Nat.le_refl _) _))
      have D_x := Lib.hid (rx_at (show Rx W0 _ 43 (b0) (.slice a0 nx c0) (.slice e0 nd f0) by rw [hW0]; exact Rx.new _ _ _ _ _) (show w.heap.size = _ by simp))
      have SZ := Lib.hid (show W0.heap.size = w.heap.size + 1 by rw [hW0]; simp)
      rw [← hW0]
      clear hW0
      have BB := Lib.hid (Below.refl W0.heap.size W0)
      refine (spec_ratOkQ b0 _ (limI x) _ (limI d) _ _ (H0.out.below B.out) E0.out).mono ?_
      rintro e w1 ⟨rfl, bw1⟩
      replace B := Lib.hid (B.out.trans (bw1.mono B.out.size))
      replace BB := Lib.hid (BB.out.trans (bw1.mono BB.out.size))
      clear bw1
      have c0_x := (D_x.out.below BB.out).c0
      have c1_x := (D_x.out.below BB.out).c1
      have c2_x := (D_x.out.below BB.out).c2
      go_wp2_with fail
      clear c0_x c1_x c2_x
      refine (spec_isOne _ d _ (H0.out.below B.out).2).mono ?_
      rw [D1.out]
      rintro r9 w9 ⟨rfl, h9⟩
      replace h9 := h9.symm
      subst h9
      have hc9 := spec_bigFormat b0 _ (limI x) w1 (H0.out.below B.out).1
      rw [TX.out] at hc9
      have c0_x := (D_x.out.below BB.out).c0
      have c1_x := (D_x.out.below BB.out).c1
      have c2_x := (D_x.out.below BB.out).c2
      go_wp2_with fail
      clear c0_x c1_x c2_x
      refine hc9.mono ?_
      rintro r5 w5 ⟨rfl, b5⟩
      go_wp2
      go_ret
      exact ⟨rfl, B.out.trans (b5.mono B.out.size)⟩

    have D1 := Lib.hid (decide_eq_false h1)
    rw [ratText_more q0 h1]
    clear q0 h1
    have hs1 := bigText_size b0 (limI x)
    have hs2 := natText_size (limI d)
    obtain ⟨tx, htx⟩ : ∃ t, bigText b0 (limI x) = t := ⟨_, rfl⟩
    have TX := Lib.hid htx
    rw [htx] at hs1 ⊢
    clear htx
    obtain ⟨ty, hty⟩ : ∃ t, natText (limI d) = t := ⟨_, rfl⟩
    have TY := Lib.hid hty
    rw [hty] at hs2 ⊢
    clear hty
    have H0 := Lib.hid h0
    obtain ⟨⟨a0, c0, rfl, z1, z2, z3⟩, ⟨e0, f0, rfl, z4, z5, z6⟩⟩ := h0
    clear z1 z2 z3 z4 z5 z6
    obtain ⟨nx, hnx⟩ : ∃ n, (limI x).length = n := ⟨_, rfl⟩
    rw [hnx] at H0
    try rw [hnx]
    have Nnx := Lib.hid hnx
    clear hnx
    obtain ⟨nd, hnd⟩ : ∃ n, (limI d).length = n := ⟨_, rfl⟩
    rw [hnd] at H0
    try rw [hnd]
    have Nnd := Lib.hid hnd
    clear hnd
    go_enter Tryz.func16, Tryz.ntmps16
    go_wp2_with fail
    obtain ⟨W0, hW0⟩ : ∃ x, x = (w.alloc (.cells #[.bool b0, .slice a0 nx c0, .slice e0 nd f0] 43)) := ⟨_, rfl⟩
    have B := Lib.hid (show Below w.heap.size w W0 by rw [hW0]; exact ((Below.refl _ _).alloc (Nat.le_refl _) _))
    have D_x := Lib.hid (rx_at (show Rx W0 _ 43 (b0) (.slice a0 nx c0) (.slice e0 nd f0) by rw [hW0]; exact Rx.new _ _ _ _ _) (show w.heap.size = _ by simp))
    have SZ := Lib.hid (show W0.heap.size = w.heap.size + 1 by rw [hW0]; simp)
    rw [← hW0]
    clear hW0
    have BB := Lib.hid (Below.refl W0.heap.size W0)
    refine (spec_ratOkQ b0 _ (limI x) _ (limI d) _ _ (H0.out.below B.out) E0.out).mono ?_
    rintro e w1 ⟨rfl, bw1⟩
    replace B := Lib.hid (B.out.trans (bw1.mono B.out.size))
    replace BB := Lib.hid (BB.out.trans (bw1.mono BB.out.size))
    clear bw1
    have c0_x := (D_x.out.below BB.out).c0
    have c1_x := (D_x.out.below BB.out).c1
    have c2_x := (D_x.out.below BB.out).c2
    go_wp2_with fail
    clear c0_x c1_x c2_x
    refine (spec_isOne _ d _ (H0.out.below B.out).2).mono ?_
    rw [D1.out]
    rintro r9 w9 ⟨rfl, h9⟩
    replace h9 := h9.symm
    subst h9
    have K_a := Lib.hid (fun (W : World) (hW : Below w1.heap.size w1 W) => pre_plain ((by have h := spec_bigFormat b0 _ (limI x) W (H0.out.below (B.out.trans (hW.mono B.out.size))).1; rw [TX.out] at h; exact h)) hW)
    have K_b := Lib.hid (fun (W : World) (hW : Below w1.heap.size w1 W) => pre_plain ((by have h := spec_formatNat _ (limI d) W (H0.out.below (B.out.trans (hW.mono B.out.size))).2; rw [TY.out] at h; exact h)) hW)
    have hc1 : ∀ W : World, (Op.stringOp .add tx ⟨#[47]⟩).run Tryz.prog W = .ok (.string (tx ++ ⟨#[47]⟩)) W := fun W => run_string_add_sum W _ _ (by show tx.size + 1 ≤ _; omega)
    have hc2 : ∀ W : World, (Op.stringOp .add (tx ++ ⟨#[47]⟩) ty).run Tryz.prog W = .ok (.string (tx ++ ⟨#[47]⟩ ++ ty)) W := fun W => run_string_add_sum W _ _ (by rw [ByteArray.size_append]; show tx.size + 1 + ty.size ≤ _; omega)
    have c0_x := (D_x.out.below BB.out).c0
    have c1_x := (D_x.out.below BB.out).c1
    have c2_x := (D_x.out.below BB.out).c2
    go_wp2_with fail
    have HS := Lib.hid (show ∀ W : World, Below w1.heap.size w1 W → (W.cell? ⟨w.heap.size, 0, none⟩ = some (.bool b0) ∧ W.cell? ⟨w.heap.size, 1, none⟩ = some (.slice a0 nx c0) ∧ W.cell? ⟨w.heap.size, 2, none⟩ = some (.slice e0 nd f0)) from fun W hW => ⟨(hW.cell (p := ⟨w.heap.size, 0, none⟩) (D_x.out.below BB.out).lt).trans c0_x, (hW.cell (p := ⟨w.heap.size, 1, none⟩) (D_x.out.below BB.out).lt).trans c1_x, (hW.cell (p := ⟨w.heap.size, 2, none⟩) (D_x.out.below BB.out).lt).trans c2_x⟩)
    have lt_x := (D_x.out.below BB.out).lt
    go_region_held3 (fun w' => w'.cell? ⟨w.heap.size, 0, none⟩ = some (.bool b0) ∧ w'.cell? ⟨w.heap.size, 1, none⟩ = some (.slice a0 nx c0) ∧ w'.cell? ⟨w.heap.size, 2, none⟩ = some (.slice e0 nd f0)) (first | exact HS.out _ (by first | with_reducible exact Below.refl _ _ | with_reducible exact (Below.refl _ _).drew | with_reducible exact bb_a | with_reducible exact bb_b | fail))
      (first
        | (go_at_call 34; refine (K_b.out _ (by first | with_reducible exact Below.refl _ _ | with_reducible exact (Below.refl _ _).drew | with_reducible exact bb_a | with_reducible exact bb_b | fail)).mono ?_; rintro e w_b ⟨rfl, bw_b, bb_b⟩)
        | (go_at_call 33; refine (K_a.out _ (by first | with_reducible exact Below.refl _ _ | with_reducible exact (Below.refl _ _).drew | with_reducible exact bb_a | with_reducible exact bb_b | fail)).mono ?_; rintro e w_a ⟨rfl, bw_a, bb_a⟩))
    clear c0_x c1_x c2_x
    clear HS lt_x
    all_goals (go_wp2; go_ret; exact ⟨rfl, B.out.trans (Below.mono (by first | exact bb_a | exact bb_b) B.out.size)⟩)


set_option maxRecDepth 100000 in
set_option maxHeartbeats 1000000 in
theorem impl_ratFormat (b0 : Bool) (v0 : Value) (zs0 : List Int) (d0 : Value) (ds0 : List Int) (w : World) (htab : Lib.TabIs Tryz.prog w "internal/strconv.uint64pow10" .u64 Lib.pow10Tab) (h0 : RowR w v0 zs0 d0 ds0) :
    Calls Tryz.prog 20 #[.agg #[.bool b0, v0, d0]] w fun r w' => r = .returned (.string (ratText b0 zs0 ds0)) ∧ Below w.heap.size w w' := by
  have HT := Lib.hid htab
  clear htab
  cases q0 : ratOk b0 zs0 ds0 with
  | false =>
    rw [ratText_no q0]
    have E0 := Lib.hid q0
    clear q0
    have H0 := Lib.hid h0
    obtain ⟨⟨a0, c0, rfl, z1, z2, z3⟩, ⟨e0, f0, rfl, z4, z5, z6⟩⟩ := h0
    clear z1 z2 z3 z4 z5 z6
    obtain ⟨nx, hnx⟩ : ∃ n, zs0.length = n := ⟨_, rfl⟩
    rw [hnx] at H0
    try rw [hnx]
    have Nnx := Lib.hid hnx
    clear hnx
    obtain ⟨nd, hnd⟩ : ∃ n, ds0.length = n := ⟨_, rfl⟩
    rw [hnd] at H0
    try rw [hnd]
    have Nnd := Lib.hid hnd
    clear hnd
    go_enter Tryz.func20, Tryz.ntmps20
    go_wp2_with fail
    obtain ⟨W0, hW0⟩ : ∃ x, x = (w.alloc (.cells #[.bool b0, .slice a0 nx c0, .slice e0 nd f0] 43)) := ⟨_, rfl⟩
    have B := Lib.hid (show Below w.heap.size w W0 by rw [hW0]; exact ((Below.refl _ _).alloc (Nat.le_refl _) _))
    have D_x := Lib.hid (rx_at (show Rx W0 _ 43 (b0) (.slice a0 nx c0) (.slice e0 nd f0) by rw [hW0]; exact Rx.new _ _ _ _ _) (show w.heap.size = _ by simp))
    have SZ := Lib.hid (show W0.heap.size = w.heap.size + 1 by rw [hW0]; simp)
    rw [← hW0]
    clear hW0
    have BB := Lib.hid (Below.refl W0.heap.size W0)
    refine (impl_ratOkQ b0 _ zs0 _ ds0 _ _ (H0.out.below B.out) E0.out).mono ?_
    rintro e w1 ⟨rfl, bw1⟩
    replace B := Lib.hid (B.out.trans (bw1.mono B.out.size))
    replace BB := Lib.hid (BB.out.trans (bw1.mono BB.out.size))
    clear bw1
    go_wp2
    go_ret
    exact ⟨rfl, B.out⟩

  | true =>
    obtain ⟨x, d, rfl, rfl, hx, hd, hd0, g0, n0⟩ := ratOk_parts q0
    have E0 := Lib.hid q0
    clear hx hd hd0 g0 n0
    by_cases h1 : d = 1
    · have D1 := Lib.hid (decide_eq_true h1)
      rw [ratText_one q0 h1]
      clear q0 h1
      have hs1 := bigText_size b0 (limI x)
      have hs2 := natText_size (limI d)
      obtain ⟨tx, htx⟩ : ∃ t, bigText b0 (limI x) = t := ⟨_, rfl⟩
      have TX := Lib.hid htx
      rw [htx] at hs1 ⊢
      clear htx
      have H0 := Lib.hid h0
      obtain ⟨⟨a0, c0, rfl, z1, z2, z3⟩, ⟨e0, f0, rfl, z4, z5, z6⟩⟩ := h0
      clear z1 z2 z3 z4 z5 z6
      obtain ⟨nx, hnx⟩ : ∃ n, (limI x).length = n := ⟨_, rfl⟩
      rw [hnx] at H0
      try rw [hnx]
      have Nnx := Lib.hid hnx
      clear hnx
      obtain ⟨nd, hnd⟩ : ∃ n, (limI d).length = n := ⟨_, rfl⟩
      rw [hnd] at H0
      try rw [hnd]
      have Nnd := Lib.hid hnd
      clear hnd
      go_enter Tryz.func20, Tryz.ntmps20
      go_wp2_with fail
      obtain ⟨W0, hW0⟩ : ∃ x, x = (w.alloc (.cells #[.bool b0, .slice a0 nx c0, .slice e0 nd f0] 43)) := ⟨_, rfl⟩
      have B := Lib.hid (show Below w.heap.size w W0 by rw [hW0]; exact ((Below.refl _ _).alloc (Nat.le_refl _) _))
      have D_x := Lib.hid (rx_at (show Rx W0 _ 43 (b0) (.slice a0 nx c0) (.slice e0 nd f0) by rw [hW0]; exact Rx.new _ _ _ _ _) (show w.heap.size = _ by simp))
      have SZ := Lib.hid (show W0.heap.size = w.heap.size + 1 by rw [hW0]; simp)
      rw [← hW0]
      clear hW0
      have BB := Lib.hid (Below.refl W0.heap.size W0)
      refine (impl_ratOkQ b0 _ (limI x) _ (limI d) _ _ (H0.out.below B.out) E0.out).mono ?_
      rintro e w1 ⟨rfl, bw1⟩
      replace B := Lib.hid (B.out.trans (bw1.mono B.out.size))
      replace BB := Lib.hid (BB.out.trans (bw1.mono BB.out.size))
      clear bw1
      have c0_x := (D_x.out.below BB.out).c0
      have c1_x := (D_x.out.below BB.out).c1
      have c2_x := (D_x.out.below BB.out).c2
      go_wp2_with fail
      clear c0_x c1_x c2_x
      refine (impl_isOne _ d _ (H0.out.below B.out).2).mono ?_
      rw [D1.out]
      rintro r9 w9 ⟨rfl, h9⟩
      replace h9 := h9.symm
      subst h9
      have hc9 := impl_bigFormat b0 _ (limI x) w1 (tab_below B.out HT.out) (H0.out.below B.out).1
      rw [TX.out] at hc9
      have c0_x := (D_x.out.below BB.out).c0
      have c1_x := (D_x.out.below BB.out).c1
      have c2_x := (D_x.out.below BB.out).c2
      go_wp2_with fail
      clear c0_x c1_x c2_x
      refine hc9.mono ?_
      rintro r5 w5 ⟨rfl, b5⟩
      go_wp2
      go_ret
      exact ⟨rfl, B.out.trans (b5.mono B.out.size)⟩

    have D1 := Lib.hid (decide_eq_false h1)
    rw [ratText_more q0 h1]
    clear q0 h1
    have hs1 := bigText_size b0 (limI x)
    have hs2 := natText_size (limI d)
    obtain ⟨tx, htx⟩ : ∃ t, bigText b0 (limI x) = t := ⟨_, rfl⟩
    have TX := Lib.hid htx
    rw [htx] at hs1 ⊢
    clear htx
    obtain ⟨ty, hty⟩ : ∃ t, natText (limI d) = t := ⟨_, rfl⟩
    have TY := Lib.hid hty
    rw [hty] at hs2 ⊢
    clear hty
    have H0 := Lib.hid h0
    obtain ⟨⟨a0, c0, rfl, z1, z2, z3⟩, ⟨e0, f0, rfl, z4, z5, z6⟩⟩ := h0
    clear z1 z2 z3 z4 z5 z6
    obtain ⟨nx, hnx⟩ : ∃ n, (limI x).length = n := ⟨_, rfl⟩
    rw [hnx] at H0
    try rw [hnx]
    have Nnx := Lib.hid hnx
    clear hnx
    obtain ⟨nd, hnd⟩ : ∃ n, (limI d).length = n := ⟨_, rfl⟩
    rw [hnd] at H0
    try rw [hnd]
    have Nnd := Lib.hid hnd
    clear hnd
    go_enter Tryz.func20, Tryz.ntmps20
    go_wp2_with fail
    obtain ⟨W0, hW0⟩ : ∃ x, x = (w.alloc (.cells #[.bool b0, .slice a0 nx c0, .slice e0 nd f0] 43)) := ⟨_, rfl⟩
    have B := Lib.hid (show Below w.heap.size w W0 by rw [hW0]; exact ((Below.refl _ _).alloc (Nat.le_refl _) _))
    have D_x := Lib.hid (rx_at (show Rx W0 _ 43 (b0) (.slice a0 nx c0) (.slice e0 nd f0) by rw [hW0]; exact Rx.new _ _ _ _ _) (show w.heap.size = _ by simp))
    have SZ := Lib.hid (show W0.heap.size = w.heap.size + 1 by rw [hW0]; simp)
    rw [← hW0]
    clear hW0
    have BB := Lib.hid (Below.refl W0.heap.size W0)
    refine (impl_ratOkQ b0 _ (limI x) _ (limI d) _ _ (H0.out.below B.out) E0.out).mono ?_
    rintro e w1 ⟨rfl, bw1⟩
    replace B := Lib.hid (B.out.trans (bw1.mono B.out.size))
    replace BB := Lib.hid (BB.out.trans (bw1.mono BB.out.size))
    clear bw1
    have c0_x := (D_x.out.below BB.out).c0
    have c1_x := (D_x.out.below BB.out).c1
    have c2_x := (D_x.out.below BB.out).c2
    go_wp2_with fail
    clear c0_x c1_x c2_x
    refine (impl_isOne _ d _ (H0.out.below B.out).2).mono ?_
    rw [D1.out]
    rintro r9 w9 ⟨rfl, h9⟩
    replace h9 := h9.symm
    subst h9
    have K_a := Lib.hid (fun (W : World) (hW : Below w1.heap.size w1 W) => pre_plain ((by have h := impl_bigFormat b0 _ (limI x) W (tab_below (B.out.trans (hW.mono B.out.size)) HT.out) (H0.out.below (B.out.trans (hW.mono B.out.size))).1; rw [TX.out] at h; exact h)) hW)
    have K_b := Lib.hid (fun (W : World) (hW : Below w1.heap.size w1 W) => pre_plain ((by have h := impl_formatNat _ (limI d) W (tab_below (B.out.trans (hW.mono B.out.size)) HT.out) (H0.out.below (B.out.trans (hW.mono B.out.size))).2; rw [TY.out] at h; exact h)) hW)
    have hc1 : ∀ W : World, (Op.stringOp .add tx ⟨#[47]⟩).run Tryz.prog W = .ok (.string (tx ++ ⟨#[47]⟩)) W := fun W => run_string_add_sum W _ _ (by show tx.size + 1 ≤ _; omega)
    have hc2 : ∀ W : World, (Op.stringOp .add (tx ++ ⟨#[47]⟩) ty).run Tryz.prog W = .ok (.string (tx ++ ⟨#[47]⟩ ++ ty)) W := fun W => run_string_add_sum W _ _ (by rw [ByteArray.size_append]; show tx.size + 1 + ty.size ≤ _; omega)
    have c0_x := (D_x.out.below BB.out).c0
    have c1_x := (D_x.out.below BB.out).c1
    have c2_x := (D_x.out.below BB.out).c2
    go_wp2_with fail
    have HS := Lib.hid (show ∀ W : World, Below w1.heap.size w1 W → (W.cell? ⟨w.heap.size, 0, none⟩ = some (.bool b0) ∧ W.cell? ⟨w.heap.size, 1, none⟩ = some (.slice a0 nx c0) ∧ W.cell? ⟨w.heap.size, 2, none⟩ = some (.slice e0 nd f0)) from fun W hW => ⟨(hW.cell (p := ⟨w.heap.size, 0, none⟩) (D_x.out.below BB.out).lt).trans c0_x, (hW.cell (p := ⟨w.heap.size, 1, none⟩) (D_x.out.below BB.out).lt).trans c1_x, (hW.cell (p := ⟨w.heap.size, 2, none⟩) (D_x.out.below BB.out).lt).trans c2_x⟩)
    have lt_x := (D_x.out.below BB.out).lt
    go_region_held3 (fun w' => w'.cell? ⟨w.heap.size, 0, none⟩ = some (.bool b0) ∧ w'.cell? ⟨w.heap.size, 1, none⟩ = some (.slice a0 nx c0) ∧ w'.cell? ⟨w.heap.size, 2, none⟩ = some (.slice e0 nd f0)) (first | exact HS.out _ (by first | with_reducible exact Below.refl _ _ | with_reducible exact (Below.refl _ _).drew | with_reducible exact bb_a | with_reducible exact bb_b | fail))
      (first
        | (go_at_call 40; refine (K_b.out _ (by first | with_reducible exact Below.refl _ _ | with_reducible exact (Below.refl _ _).drew | with_reducible exact bb_a | with_reducible exact bb_b | fail)).mono ?_; rintro e w_b ⟨rfl, bw_b, bb_b⟩)
        | (go_at_call 39; refine (K_a.out _ (by first | with_reducible exact Below.refl _ _ | with_reducible exact (Below.refl _ _).drew | with_reducible exact bb_a | with_reducible exact bb_b | fail)).mono ?_; rintro e w_a ⟨rfl, bw_a, bb_a⟩))
    clear c0_x c1_x c2_x
    clear HS lt_x
    all_goals (go_wp2; go_ret; exact ⟨rfl, B.out.trans (Below.mono (by first | exact bb_a | exact bb_b) B.out.size)⟩)


end Go.Proofs.YtdajldenjeanhaaGreatDoor
