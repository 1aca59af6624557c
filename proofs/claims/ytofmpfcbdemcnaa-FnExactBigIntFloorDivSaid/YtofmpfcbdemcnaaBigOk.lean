/- BigIntOk of the program and of the model; the exact law of BigIntOk. -/
import Derived.Test.YtofmpfcbdemcnaaBig
namespace Go.Proofs.Ytofmpfcbdemcnaa
open Go.RowKit

/-- a sign and a list that are a number: a natural number, and no sign at 0 -/
def bigOk (b : Bool) (zs : List Int) : Bool := okB zs && (!b || decide (0 < zs.length))
theorem bigOk_no {b : Bool} {zs : List Int} (h : okB zs = false) : bigOk b zs = false := by unfold bigOk; rw [h]; rfl
theorem bigOk_plain {zs : List Int} (h : okB zs = true) : bigOk false zs = true := by unfold bigOk; rw [h]; rfl
theorem bigOk_neg {zs : List Int} (h : okB zs = true) : bigOk true zs = decide (0 < zs.length) := by unfold bigOk; rw [h]; rfl
theorem bigOk_ok {b : Bool} {zs : List Int} (h : bigOk b zs = true) : okB zs = true := by
  unfold bigOk at h
  rw [Bool.and_eq_true] at h
  exact h.1
theorem bigOk_pos {zs : List Int} (h : bigOk true zs = true) : 0 < zs.length := by
  rw [bigOk_neg (bigOk_ok h)] at h
  simpa using h

set_option maxHeartbeats 400000 in
theorem spec_bigOk (b : Bool) (va : Value) (zs : List Int) (w : World) (ha : RowOf iV w va zs) :
    Calls Try.prog 13 #[.agg #[.bool b, va]] w fun e w' => e = .returned (.bool (bigOk b zs)) ∧ w' = w.alloc (.cells #[.bool b, va] 27) := by
  have K0 := Lib.hid (fun W (hW : Below w.heap.size w W) => spec_natOk va zs W (rowOf_below ha hW))
  obtain ⟨a, c, rfl, h1, h2, h3⟩ := ha
  clear h1 h3
  unfold maxLen at h2
  have bA := (Below.refl w.heap.size w).alloc (Nat.le_refl _) (.cells #[.bool b, .slice a zs.length c] 27)
  cases e0 : okB zs with
  | false =>
    have HE := Lib.hid (bigOk_no (b := b) e0)
    rw [e0] at K0
    clear e0
    go_enter Try.func13, Try.ntmps13
    go_wp2_with (go_at_call 40; refine (K0.out _ bA).mono ?_; rintro e w' ⟨rfl, rfl⟩)
    go_ret
    exact ⟨ret_bool (by rw [HE.out]), rfl⟩
  | true =>
    rw [e0] at K0
    cases b with
    | false =>
      have HE := Lib.hid (bigOk_plain e0)
      clear e0
      go_enter Try.func13, Try.ntmps13
      go_wp2_with (go_at_call 40; refine (K0.out _ bA).mono ?_; rintro e w' ⟨rfl, rfl⟩)
      go_ret
      exact ⟨ret_bool (by rw [HE.out]), rfl⟩
    | true =>
      have HE := bigOk_neg e0
      clear e0
      by_cases h0 : 0 < zs.length
      · rw [decide_eq_true h0] at HE
        have HE := Lib.hid HE
        go_enter Try.func13, Try.ntmps13
        go_wp2_with (go_at_call 40; refine (K0.out _ bA).mono ?_; rintro e w' ⟨rfl, rfl⟩)
        go_ret
        exact ⟨ret_bool (by rw [HE.out]), rfl⟩
      · rw [decide_eq_false h0] at HE
        have HE := Lib.hid HE
        have hz : zs.length = 0 := by omega
        rw [hz] at K0 bA ⊢
        clear h0 h2
        go_enter Try.func13, Try.ntmps13
        go_wp2_with (go_at_call 40; refine (K0.out _ bA).mono ?_; rintro e w' ⟨rfl, rfl⟩)
        go_ret
        exact ⟨ret_bool (by rw [HE.out]), rfl⟩
theorem spec_bigOkB (b : Bool) (va : Value) (zs : List Int) (w : World) (ha : RowOf iV w va zs) :
    Calls Try.prog 13 #[.agg #[.bool b, va]] w fun e w' => e = .returned (.bool (bigOk b zs)) ∧ Below w.heap.size w w' :=
  (spec_bigOk b va zs w ha).mono fun _ _ ⟨he, hw⟩ => ⟨he, by rw [hw]; exact (Below.refl _ _).alloc (Nat.le_refl _) _⟩

set_option maxHeartbeats 400000 in
theorem impl_bigOk (b : Bool) (va : Value) (zs : List Int) (w : World) (ha : RowOf iV w va zs) :
    Calls Try.prog 15 #[.agg #[.bool b, va]] w fun e w' => e = .returned (.bool (bigOk b zs)) ∧ w' = w.alloc (.cells #[.bool b, va] 27) := by
  have K0 := Lib.hid (fun W (hW : Below w.heap.size w W) => impl_natOk va zs W (rowOf_below ha hW))
  obtain ⟨a, c, rfl, h1, h2, h3⟩ := ha
  clear h1 h3
  unfold maxLen at h2
  have bA := (Below.refl w.heap.size w).alloc (Nat.le_refl _) (.cells #[.bool b, .slice a zs.length c] 27)
  cases e0 : okB zs with
  | false =>
    have HE := Lib.hid (bigOk_no (b := b) e0)
    rw [e0] at K0
    clear e0
    go_enter Try.func15, Try.ntmps15
    go_wp2_with (go_at_call 41; refine (K0.out _ bA).mono ?_; rintro e w' ⟨rfl, rfl⟩)
    go_ret
    exact ⟨ret_bool (by rw [HE.out]), rfl⟩
  | true =>
    rw [e0] at K0
    cases b with
    | false =>
      have HE := Lib.hid (bigOk_plain e0)
      clear e0
      go_enter Try.func15, Try.ntmps15
      go_wp2_with (go_at_call 41; refine (K0.out _ bA).mono ?_; rintro e w' ⟨rfl, rfl⟩)
      go_ret
      exact ⟨ret_bool (by rw [HE.out]), rfl⟩
    | true =>
      have HE := bigOk_neg e0
      clear e0
      by_cases h0 : 0 < zs.length
      · rw [decide_eq_true h0] at HE
        have HE := Lib.hid HE
        go_enter Try.func15, Try.ntmps15
        go_wp2_with (go_at_call 41; refine (K0.out _ bA).mono ?_; rintro e w' ⟨rfl, rfl⟩)
        go_ret
        exact ⟨ret_bool (by rw [HE.out]), rfl⟩
      · rw [decide_eq_false h0] at HE
        have HE := Lib.hid HE
        have hz : zs.length = 0 := by omega
        rw [hz] at K0 bA ⊢
        clear h0 h2
        go_enter Try.func15, Try.ntmps15
        go_wp2_with (go_at_call 41; refine (K0.out _ bA).mono ?_; rintro e w' ⟨rfl, rfl⟩)
        go_ret
        exact ⟨ret_bool (by rw [HE.out]), rfl⟩
theorem impl_bigOkB (b : Bool) (va : Value) (zs : List Int) (w : World) (ha : RowOf iV w va zs) :
    Calls Try.prog 15 #[.agg #[.bool b, va]] w fun e w' => e = .returned (.bool (bigOk b zs)) ∧ Below w.heap.size w w' :=
  (impl_bigOk b va zs w ha).mono fun _ _ ⟨he, hw⟩ => ⟨he, by rw [hw]; exact (Below.refl _ _).alloc (Nat.le_refl _) _⟩

set_option maxHeartbeats 4000000 in
theorem law_bigIntOk (W : World) (ng0 : Bool) (v0 : Value) (zs0 : List Int) (h0 : RowOf iV W v0 zs0) (_ : True) :
    Calls Try.prog 3 #[.agg #[.bool ng0, v0]] W fun e w' => e = .returned (.bool true) ∧ Below W.heap.size W w' := by
  have R0 := Lib.hid h0
  obtain ⟨a0, c0, rfl, hc0, hm0, hr0⟩ := h0
  clear hr0
  unfold maxLen at hm0
  obtain ⟨m0, hm0'⟩ : ∃ n, zs0.length = n := ⟨_, rfl⟩
  rw [hm0'] at hc0 R0 ⊢
  have N0 := Lib.hid hm0'
  clear hm0'
  by_cases hl0 : m0 ≤ 1048576
  rotate_left
  · go_enter Try.func3, Try.ntmps3
    go_wp2_with fail
    obtain ⟨W0, hW0⟩ : ∃ x, x = (W.alloc (.cells #[.bool ng0, .slice a0 m0 c0] 24)) := ⟨_, rfl⟩
    have B := Lib.hid (show Below W.heap.size W W0 by rw [hW0]; exact (Below.refl W.heap.size W).alloc (Nat.le_refl _) (.cells #[.bool ng0, .slice a0 m0 c0] 24))
    have D_a0 := Lib.hid (bx_at (show Bx W0 _ 24 ng0 (.slice a0 m0 c0) by rw [hW0]; exact Bx.new _ _ _ _) (show W.heap.size = _ by simp))
    rw [← hW0]
    clear hW0
    refine (sz_big_no ng0 a0 m0 c0 (1048576) _ (by omega) (by omega)).mono ?_
    rintro e w0' ⟨rfl, bz0⟩
    replace B := Lib.hid (B.out.trans (bz0.mono B.out.size))
    clear bz0
    go_wp2
    go_ret
    exact ⟨rfl, B.out⟩
  go_enter Try.func3, Try.ntmps3
  go_wp2_with fail
  obtain ⟨W0, hW0⟩ : ∃ x, x = (W.alloc (.cells #[.bool ng0, .slice a0 m0 c0] 24)) := ⟨_, rfl⟩
  have B := Lib.hid (show Below W.heap.size W W0 by rw [hW0]; exact (Below.refl W.heap.size W).alloc (Nat.le_refl _) (.cells #[.bool ng0, .slice a0 m0 c0] 24))
  have D_a0 := Lib.hid (bx_at (show Bx W0 _ 24 ng0 (.slice a0 m0 c0) by rw [hW0]; exact Bx.new _ _ _ _) (show W.heap.size = _ by simp))
  rw [← hW0]
  clear hW0
  have z0 := Lib.hid (show W.heap.size ≤ W0.heap.size from B.out.size)
  refine (sz_big_yes ng0 a0 m0 c0 (1048576) _ (by omega) (by omega)).mono ?_
  rintro e w1 ⟨rfl, b1⟩
  have z1 := Lib.hid b1.size
  replace D_a0 := Lib.hid (D_a0.out.below b1)
  replace B := Lib.hid (B.out.trans (b1.mono B.out.size))
  clear b1
  have c0_a0 := D_a0.out.c0
  have c1_a0 := D_a0.out.c1
  go_wp2_with fail
  clear c0_a0 c1_a0
  refine (to_bigs _ zs0 _ (rowOf_below R0.out B.out) (by rw [N0.out]; omega)).mono ?_
  rintro e w2 ⟨v_t1, rfl, o_t1, b2⟩
  obtain ⟨a_t1, c_t1, rfl⟩ := o_t1.slice
  have z2 := Lib.hid b2.size
  replace D_a0 := Lib.hid (D_a0.out.below b2)
  replace B := Lib.hid (B.out.trans (b2.mono B.out.size))
  have O_t1 := Lib.hid o_t1
  have L_t1 := Lib.hid o_t1.lt
  clear o_t1
  clear b2
  go_wp2_with fail
  refine (spec_bigOkB ng0 _ zs0 _  O_t1.out.row).mono ?_
  rintro e w3 ⟨rfl, b3⟩
  have z3 := Lib.hid b3.size
  replace O_t1 := Lib.hid (O_t1.out.below b3)
  replace D_a0 := Lib.hid (D_a0.out.below b3)
  replace B := Lib.hid (B.out.trans (b3.mono B.out.size))
  clear b3
  clear O_t1 L_t1
  have c0_a0 := D_a0.out.c0
  have c1_a0 := D_a0.out.c1
  go_wp2_with fail
  clear c0_a0 c1_a0
  refine (to_bigs _ zs0 _ (rowOf_below R0.out B.out) (by rw [N0.out]; omega)).mono ?_
  rintro e w4 ⟨v_t2, rfl, o_t2, b4⟩
  obtain ⟨a_t2, c_t2, rfl⟩ := o_t2.slice
  have z4 := Lib.hid b4.size
  replace D_a0 := Lib.hid (D_a0.out.below b4)
  replace B := Lib.hid (B.out.trans (b4.mono B.out.size))
  have O_t2 := Lib.hid o_t2
  have L_t2 := Lib.hid o_t2.lt
  clear o_t2
  clear b4
  have hz := B.out.size
  go_wp2_with fail
  clear hz
  obtain ⟨w5, hW0⟩ : ∃ x, x = w4.alloc (.cells #[.bool ng0, .slice a_t2 (zs0).length c_t2] 27) := ⟨_, rfl⟩
  replace O_t2 := Lib.hid (show OwnI w5 _ _ _ by rw [hW0]; exact O_t2.out.alloc _)
  replace D_a0 := Lib.hid (show Bx w5 _ _ _ _ by rw [hW0]; exact D_a0.out.alloc _)
  have D_t2 := Lib.hid (show Bx w5 w4.heap.size 27 ng0 (.slice a_t2 (zs0).length c_t2) by rw [hW0]; exact Bx.new _ _ _ _)
  replace B := Lib.hid (show Below W.heap.size W w5 by rw [hW0]; exact B.out.alloc B.out.size _)
  have z5 := Lib.hid (show w4.heap.size ≤ w5.heap.size by rw [hW0]; simp)
  rw [← hW0]
  clear hW0
  refine (impl_bigOkB ng0 _ zs0 _  O_t2.out.row).mono ?_
  rintro e w6 ⟨rfl, b6⟩
  have z6 := Lib.hid b6.size
  replace O_t2 := Lib.hid (O_t2.out.below b6)
  replace D_a0 := Lib.hid (D_a0.out.below b6)
  replace D_t2 := Lib.hid (D_t2.out.below b6)
  replace B := Lib.hid (B.out.trans (b6.mono B.out.size))
  clear b6
  go_wp2_with fail
  go_wp2_with fail
  have c0_t2 := D_t2.out.c0
  have c1_t2 := D_t2.out.c1
  have c0_a0 := D_a0.out.c0
  have c1_a0 := D_a0.out.c1
  have lt_t2 := D_t2.out.lt
  have lt_a0 := D_a0.out.lt
  go_region_held3 (fun w' => w'.cell? ⟨w4.heap.size, 0, none⟩ = some (.bool ng0) ∧ w'.cell? ⟨w4.heap.size, 1, none⟩ = some (.slice a_t2 (zs0).length c_t2) ∧ w'.cell? ⟨W.heap.size, 0, none⟩ = some (.bool ng0) ∧ w'.cell? ⟨W.heap.size, 1, none⟩ = some (.slice a0 m0 c0)) (first | exact ⟨d8_0_t2, d8_1_t2, d8_0_a0, d8_1_a0⟩ | exact ⟨d7_0_t2, d7_1_t2, d7_0_a0, d7_1_a0⟩ | exact ⟨c0_t2, c1_t2, c0_a0, c1_a0⟩)
    (first
      | (have := bb7; go_at_call 16; refine (eq_bigsB _ _ _ _ (rowOf_below O_t2.out.row bb7) o_t3.row).mono ?_; rintro e w8 ⟨rfl, b8⟩; have bb8 : Below w6.heap.size w6 w8 := bb7.trans (b8.mono bb7.size); have d8_0_t2 := (bb8.cell (p := ⟨w4.heap.size, 0, none⟩) lt_t2).trans c0_t2; have d8_1_t2 := (bb8.cell (p := ⟨w4.heap.size, 1, none⟩) lt_t2).trans c1_t2; have d8_0_a0 := (bb8.cell (p := ⟨W.heap.size, 0, none⟩) lt_a0).trans c0_a0; have d8_1_a0 := (bb8.cell (p := ⟨W.heap.size, 1, none⟩) lt_a0).trans c1_a0)
      | (go_at_call 14; refine (to_bigs _ zs0 _ (rowOf_below R0.out (B.out.trans (Below.mono (by first | exact Below.refl _ _ | exact (Below.refl _ _).drew) B.out.size))) (by rw [N0.out]; omega)).mono ?_; rintro e w7 ⟨v_t3, rfl, o_t3, b7⟩; obtain ⟨a_t3, c_t3, rfl⟩ := o_t3.slice; have bb7 : Below w6.heap.size w6 w7 := (by first | exact b7 | exact ((Below.refl _ _).drew).trans b7); have d7_0_t2 := (bb7.cell (p := ⟨w4.heap.size, 0, none⟩) lt_t2).trans c0_t2; have d7_1_t2 := (bb7.cell (p := ⟨w4.heap.size, 1, none⟩) lt_t2).trans c1_t2; have d7_0_a0 := (bb7.cell (p := ⟨W.heap.size, 0, none⟩) lt_a0).trans c0_a0; have d7_1_a0 := (bb7.cell (p := ⟨W.heap.size, 1, none⟩) lt_a0).trans c1_a0))
  clear b7
  have b7 := bb7
  replace o_t3 : OwnI w7 w6.heap.size _ _ := o_t3
  have z7 := Lib.hid b7.size
  replace O_t2 := Lib.hid (O_t2.out.below b7)
  replace D_a0 := Lib.hid (D_a0.out.below b7)
  replace D_t2 := Lib.hid (D_t2.out.below b7)
  replace B := Lib.hid (B.out.trans (b7.mono B.out.size))
  have O_t3 := Lib.hid o_t3
  have L_t3 := Lib.hid o_t3.lt
  clear o_t3
  clear b7
  clear d7_0_t2 d7_1_t2
  clear d7_0_a0 d7_1_a0
  have z8 := Lib.hid b8.size
  replace O_t2 := Lib.hid (O_t2.out.below b8)
  replace O_t3 := Lib.hid (O_t3.out.below b8)
  replace D_a0 := Lib.hid (D_a0.out.below b8)
  replace D_t2 := Lib.hid (D_t2.out.below b8)
  replace B := Lib.hid (B.out.trans (b8.mono B.out.size))
  clear b8
  clear d8_0_t2 d8_1_t2
  clear d8_0_a0 d8_1_a0
  clear bb7 bb8
  clear c0_t2 c1_t2
  clear c0_a0 c1_a0
  clear lt_t2
  clear lt_a0
  clear O_t3 L_t3
  go_wp2
  go_ret
  exact ⟨rfl, B.out⟩


end Go.Proofs.Ytofmpfcbdemcnaa
