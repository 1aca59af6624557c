/- BigIntCmp of the program and of the model; its exact law. -/
import Derived.Test.YtofmpfcbdemcnaaBigOps
namespace Go.Proofs.Ytofmpfcbdemcnaa
open Go.RowKit

def sgCmp (b0 : Bool) (x : Nat) (b1 : Bool) (y : Nat) : Int := if b0 then (if b1 then cmpN y x else -1) else (if b1 then 1 else cmpN x y)
theorem sgCmp_ff (x y : Nat) : sgCmp false x false y = cmpN x y := rfl
theorem sgCmp_tt (x y : Nat) : sgCmp true x true y = cmpN y x := rfl
theorem sgCmp_tf (x y : Nat) : sgCmp true x false y = -1 := rfl
theorem sgCmp_ft (x y : Nat) : sgCmp false x true y = 1 := rfl
def bigCmp (b0 : Bool) (zs0 : List Int) (b1 : Bool) (zs1 : List Int) : Int := if bigOk b0 zs0 && bigOk b1 zs1 then sgCmp b0 (natI zs0) b1 (natI zs1) else 0
theorem bigCmp_yes {b0 b1 : Bool} {x y : Nat} (h0 : bigOk b0 (limI x) = true) (h1 : bigOk b1 (limI y) = true) : bigCmp b0 (limI x) b1 (limI y) = sgCmp b0 x b1 y := by unfold bigCmp; rw [h0, h1, natI_limI, natI_limI]; rfl
theorem bigCmp_no {b0 b1 : Bool} {zs0 zs1 : List Int} (h : bigOk b0 zs0 = false ∨ bigOk b1 zs1 = false) : bigCmp b0 zs0 b1 zs1 = 0 := by unfold bigCmp; rcases h with h | h <;> rw [h] <;> simp

set_option maxHeartbeats 1000000 in
theorem spec_cmpBig (b0 : Bool) (va : Value) (x : Nat) (b1 : Bool) (vb : Value) (y : Nat) (w : World) (ha : RowOf iV w va (limI x)) (hb : RowOf iV w vb (limI y)) (hx : nlen x ≤ 400) (hy : nlen y ≤ 400) :
    Calls Try.prog 52 #[.agg #[.bool b0, va], .agg #[.bool b1, vb]] w fun e w' => e = .returned (.int .i64 (sgCmp b0 x b1 y)) ∧ Below w.heap.size w w' := by
  have T0 := Lib.hid (fun W (hW : Below w.heap.size w W) => spec_cmp va vb x y W (rowOf_below ha hW) (rowOf_below hb hW) (by omega) (by omega))
  have T1 := Lib.hid (fun W (hW : Below w.heap.size w W) => spec_cmp vb va y x W (rowOf_below hb hW) (rowOf_below ha hW) (by omega) (by omega))
  obtain ⟨aa, ca, rfl, h1, h2, h3⟩ := ha
  obtain ⟨ab, cb, rfl, h4, h5, h6⟩ := hb
  clear h1 h2 h3 h4 h5 h6 hx hy
  generalize hm : (limI x).length = nx at *
  generalize hm' : (limI y).length = ny at *
  clear hm hm'
  cases b0 with
  | false =>
    cases b1 with
    | false =>
      rw [sgCmp_ff]
      go_enter Try.func52, Try.ntmps52
      go_wp2_with fail
      refine (T0.out _ (((Below.refl _ _).alloc (Nat.le_refl _) _).alloc (by simp) _)).mono ?_
      rintro e w1 ⟨rfl, bw1⟩
      have BB := (((Below.refl _ _).alloc (Nat.le_refl _) _).alloc (by simp) _).trans (bw1.mono (by simp; omega))
      clear bw1
      go_wp2
      go_ret
      exact ⟨rfl, BB⟩
    | true =>
      rw [sgCmp_ft]
      go_enter Try.func52, Try.ntmps52
      go_wp2
      go_ret
      exact ⟨rfl, (((Below.refl _ _).alloc (Nat.le_refl _) _).alloc (by simp) _)⟩
  | true =>
    cases b1 with
    | false =>
      rw [sgCmp_tf]
      go_enter Try.func52, Try.ntmps52
      go_wp2
      go_ret
      exact ⟨rfl, (((Below.refl _ _).alloc (Nat.le_refl _) _).alloc (by simp) _)⟩
    | true =>
      rw [sgCmp_tt]
      go_enter Try.func52, Try.ntmps52
      go_wp2_with fail
      refine (T1.out _ (((Below.refl _ _).alloc (Nat.le_refl _) _).alloc (by simp) _)).mono ?_
      rintro e w1 ⟨rfl, bw1⟩
      have BB := (((Below.refl _ _).alloc (Nat.le_refl _) _).alloc (by simp) _).trans (bw1.mono (by simp; omega))
      clear bw1
      go_wp2
      go_ret
      exact ⟨rfl, BB⟩

set_option maxHeartbeats 1000000 in
theorem spec_bigCmp (b0 : Bool) (va : Value) (zs0 : List Int) (b1 : Bool) (vb : Value) (zs1 : List Int) (w : World) (ha : RowOf iV w va zs0) (hb : RowOf iV w vb zs1) :
    Calls Try.prog 31 #[.agg #[.bool b0, va], .agg #[.bool b1, vb]] w fun e w' => e = .returned (.int .i64 (bigCmp b0 zs0 b1 zs1)) ∧ Below w.heap.size w w' := by
  have K0 := Lib.hid (fun W (hW : Below w.heap.size w W) => spec_bigOk b0 va zs0 W (rowOf_below ha hW))
  have K1 := Lib.hid (fun W (hW : Below w.heap.size w W) => spec_bigOk b1 vb zs1 W (rowOf_below hb hW))
  cases e0 : bigOk b0 zs0 with
  | false =>
    have HE := Lib.hid (bigCmp_no (zs0 := zs0) (b1 := b1) (zs1 := zs1) (.inl e0))
    rw [e0] at K0
    clear e0
    rw [HE.out]
    obtain ⟨aa, ca, rfl, h1, h2, h3⟩ := ha
    obtain ⟨ab, cb, rfl, h4, h5, h6⟩ := hb
    clear h1 h2 h3 h4 h5 h6
    go_enter Try.func31, Try.ntmps31
    go_wp2_with fail
    refine (K0.out _ (((Below.refl _ _).alloc (Nat.le_refl _) _).alloc (by simp) _)).mono ?_
    rintro e w' ⟨rfl, rfl⟩
    go_wp2
    go_ret
    exact ⟨rfl, ((((Below.refl _ _).alloc (Nat.le_refl _) _).alloc (by simp) _).alloc (by simp; omega) _)⟩
  | true =>
    cases e1 : bigOk b1 zs1 with
    | false =>
      have HE := Lib.hid (bigCmp_no (b0 := b0) (zs0 := zs0) (zs1 := zs1) (.inr e1))
      rw [e0] at K0
      rw [e1] at K1
      clear e0 e1
      rw [HE.out]
      obtain ⟨aa, ca, rfl, h1, h2, h3⟩ := ha
      obtain ⟨ab, cb, rfl, h4, h5, h6⟩ := hb
      clear h1 h2 h3 h4 h5 h6
      go_enter Try.func31, Try.ntmps31
      go_wp2_with fail
      refine (K0.out _ (((Below.refl _ _).alloc (Nat.le_refl _) _).alloc (by simp) _)).mono ?_
      rintro e w' ⟨rfl, rfl⟩
      go_wp2_with fail
      refine (K1.out _ ((((Below.refl _ _).alloc (Nat.le_refl _) _).alloc (by simp) _).alloc (by simp; omega) _)).mono ?_
      rintro e w' ⟨rfl, rfl⟩
      go_wp2
      go_ret
      exact ⟨rfl, (((((Below.refl _ _).alloc (Nat.le_refl _) _).alloc (by simp) _).alloc (by simp; omega) _).alloc (by simp; omega) _)⟩
    | true =>
      obtain ⟨x, rfl, hx⟩ := okB_cases (bigOk_ok e0)
      obtain ⟨y, rfl, hy⟩ := okB_cases (bigOk_ok e1)
      rw [bigCmp_yes e0 e1]
      rw [e0] at K0
      rw [e1] at K1
      have hx60 := (nlen_le_iff _ _).2 hx
      have hy60 := (nlen_le_iff _ _).2 hy
      have T0 := Lib.hid (fun W (hW : Below w.heap.size w W) => spec_cmpBig b0 va x b1 vb y W (rowOf_below ha hW) (rowOf_below hb hW) (by omega) (by omega))
      obtain ⟨aa, ca, rfl, h1, h2, h3⟩ := ha
      obtain ⟨ab, cb, rfl, h4, h5, h6⟩ := hb
      clear h1 h2 h3 h4 h5 h6
      clear e0 e1 hx hy hx60 hy60
      go_enter Try.func31, Try.ntmps31
      go_wp2_with fail
      refine (K0.out _ (((Below.refl _ _).alloc (Nat.le_refl _) _).alloc (by simp) _)).mono ?_
      rintro e w' ⟨rfl, rfl⟩
      go_wp2_with fail
      refine (K1.out _ ((((Below.refl _ _).alloc (Nat.le_refl _) _).alloc (by simp) _).alloc (by simp; omega) _)).mono ?_
      rintro e w' ⟨rfl, rfl⟩
      go_wp2_with fail
      refine (T0.out _ (((((Below.refl _ _).alloc (Nat.le_refl _) _).alloc (by simp) _).alloc (by simp; omega) _).alloc (by simp; omega) _)).mono ?_
      rintro e w1 ⟨rfl, bw1⟩
      have BB := (((((Below.refl _ _).alloc (Nat.le_refl _) _).alloc (by simp) _).alloc (by simp; omega) _).alloc (by simp; omega) _).trans (bw1.mono (by simp; omega))
      clear bw1
      go_wp2
      go_ret
      exact ⟨rfl, BB⟩

set_option maxHeartbeats 1000000 in
theorem impl_bigCmp (b0 : Bool) (va : Value) (zs0 : List Int) (b1 : Bool) (vb : Value) (zs1 : List Int) (w : World) (ha : RowOf iV w va zs0) (hb : RowOf iV w vb zs1) :
    Calls Try.prog 32 #[.agg #[.bool b0, va], .agg #[.bool b1, vb]] w fun e w' => e = .returned (.int .i64 (bigCmp b0 zs0 b1 zs1)) ∧ Below w.heap.size w w' := by
  have K0 := Lib.hid (fun W (hW : Below w.heap.size w W) => impl_bigOk b0 va zs0 W (rowOf_below ha hW))
  have K1 := Lib.hid (fun W (hW : Below w.heap.size w W) => impl_bigOk b1 vb zs1 W (rowOf_below hb hW))
  cases e0 : bigOk b0 zs0 with
  | false =>
    have HE := Lib.hid (bigCmp_no (zs0 := zs0) (b1 := b1) (zs1 := zs1) (.inl e0))
    rw [e0] at K0
    clear e0
    rw [HE.out]
    obtain ⟨aa, ca, rfl, h1, h2, h3⟩ := ha
    obtain ⟨ab, cb, rfl, h4, h5, h6⟩ := hb
    clear h1 h2 h3 h4 h5 h6
    go_enter Try.func32, Try.ntmps32
    go_wp2_with fail
    refine (K0.out _ (((Below.refl _ _).alloc (Nat.le_refl _) _).alloc (by simp) _)).mono ?_
    rintro e w' ⟨rfl, rfl⟩
    go_wp2
    go_ret
    exact ⟨rfl, ((((Below.refl _ _).alloc (Nat.le_refl _) _).alloc (by simp) _).alloc (by simp; omega) _)⟩
  | true =>
    cases e1 : bigOk b1 zs1 with
    | false =>
      have HE := Lib.hid (bigCmp_no (b0 := b0) (zs0 := zs0) (zs1 := zs1) (.inr e1))
      rw [e0] at K0
      rw [e1] at K1
      clear e0 e1
      rw [HE.out]
      obtain ⟨aa, ca, rfl, h1, h2, h3⟩ := ha
      obtain ⟨ab, cb, rfl, h4, h5, h6⟩ := hb
      clear h1 h2 h3 h4 h5 h6
      go_enter Try.func32, Try.ntmps32
      go_wp2_with fail
      refine (K0.out _ (((Below.refl _ _).alloc (Nat.le_refl _) _).alloc (by simp) _)).mono ?_
      rintro e w' ⟨rfl, rfl⟩
      go_wp2_with fail
      refine (K1.out _ ((((Below.refl _ _).alloc (Nat.le_refl _) _).alloc (by simp) _).alloc (by simp; omega) _)).mono ?_
      rintro e w' ⟨rfl, rfl⟩
      go_wp2
      go_ret
      exact ⟨rfl, (((((Below.refl _ _).alloc (Nat.le_refl _) _).alloc (by simp) _).alloc (by simp; omega) _).alloc (by simp; omega) _)⟩
    | true =>
      obtain ⟨x, rfl, hx⟩ := okB_cases (bigOk_ok e0)
      obtain ⟨y, rfl, hy⟩ := okB_cases (bigOk_ok e1)
      rw [bigCmp_yes e0 e1]
      rw [e0] at K0
      rw [e1] at K1
      have hx60 := (nlen_le_iff _ _).2 hx
      have hy60 := (nlen_le_iff _ _).2 hy
      have T0 := Lib.hid (fun W (hW : Below w.heap.size w W) => impl_compare va vb x y W (rowOf_below ha hW) (rowOf_below hb hW) (by omega) (by omega))
      have T1 := Lib.hid (fun W (hW : Below w.heap.size w W) => impl_compare vb va y x W (rowOf_below hb hW) (rowOf_below ha hW) (by omega) (by omega))
      obtain ⟨aa, ca, rfl, h1, h2, h3⟩ := ha
      obtain ⟨ab, cb, rfl, h4, h5, h6⟩ := hb
      clear h1 h2 h3 h4 h5 h6
      clear e0 e1 hx hy hx60 hy60
      cases b0 with
      | false =>
        cases b1 with
        | false =>
          rw [sgCmp_ff]
          go_enter Try.func32, Try.ntmps32
          go_wp2_with fail
          refine (K0.out _ (((Below.refl _ _).alloc (Nat.le_refl _) _).alloc (by simp) _)).mono ?_
          rintro e w' ⟨rfl, rfl⟩
          go_wp2_with fail
          refine (K1.out _ ((((Below.refl _ _).alloc (Nat.le_refl _) _).alloc (by simp) _).alloc (by simp; omega) _)).mono ?_
          rintro e w' ⟨rfl, rfl⟩
          go_wp2_with fail
          refine (T0.out _ (((((Below.refl _ _).alloc (Nat.le_refl _) _).alloc (by simp) _).alloc (by simp; omega) _).alloc (by simp; omega) _)).mono ?_
          rintro e w1 ⟨rfl, bw1⟩
          have BB := (((((Below.refl _ _).alloc (Nat.le_refl _) _).alloc (by simp) _).alloc (by simp; omega) _).alloc (by simp; omega) _).trans (bw1.mono (by simp; omega))
          clear bw1
          go_wp2
          go_ret
          exact ⟨rfl, BB⟩
        | true =>
          rw [sgCmp_ft]
          go_enter Try.func32, Try.ntmps32
          go_wp2_with fail
          refine (K0.out _ (((Below.refl _ _).alloc (Nat.le_refl _) _).alloc (by simp) _)).mono ?_
          rintro e w' ⟨rfl, rfl⟩
          go_wp2_with fail
          refine (K1.out _ ((((Below.refl _ _).alloc (Nat.le_refl _) _).alloc (by simp) _).alloc (by simp; omega) _)).mono ?_
          rintro e w' ⟨rfl, rfl⟩
          go_wp2
          go_ret
          exact ⟨rfl, (((((Below.refl _ _).alloc (Nat.le_refl _) _).alloc (by simp) _).alloc (by simp; omega) _).alloc (by simp; omega) _)⟩
      | true =>
        cases b1 with
        | false =>
          rw [sgCmp_tf]
          go_enter Try.func32, Try.ntmps32
          go_wp2_with fail
          refine (K0.out _ (((Below.refl _ _).alloc (Nat.le_refl _) _).alloc (by simp) _)).mono ?_
          rintro e w' ⟨rfl, rfl⟩
          go_wp2_with fail
          refine (K1.out _ ((((Below.refl _ _).alloc (Nat.le_refl _) _).alloc (by simp) _).alloc (by simp; omega) _)).mono ?_
          rintro e w' ⟨rfl, rfl⟩
          go_wp2
          go_ret
          exact ⟨rfl, (((((Below.refl _ _).alloc (Nat.le_refl _) _).alloc (by simp) _).alloc (by simp; omega) _).alloc (by simp; omega) _)⟩
        | true =>
          rw [sgCmp_tt]
          go_enter Try.func32, Try.ntmps32
          go_wp2_with fail
          refine (K0.out _ (((Below.refl _ _).alloc (Nat.le_refl _) _).alloc (by simp) _)).mono ?_
          rintro e w' ⟨rfl, rfl⟩
          go_wp2_with fail
          refine (K1.out _ ((((Below.refl _ _).alloc (Nat.le_refl _) _).alloc (by simp) _).alloc (by simp; omega) _)).mono ?_
          rintro e w' ⟨rfl, rfl⟩
          go_wp2_with fail
          refine (T1.out _ (((((Below.refl _ _).alloc (Nat.le_refl _) _).alloc (by simp) _).alloc (by simp; omega) _).alloc (by simp; omega) _)).mono ?_
          rintro e w1 ⟨rfl, bw1⟩
          have BB := (((((Below.refl _ _).alloc (Nat.le_refl _) _).alloc (by simp) _).alloc (by simp; omega) _).alloc (by simp; omega) _).trans (bw1.mono (by simp; omega))
          clear bw1
          go_wp2
          go_ret
          exact ⟨rfl, BB⟩

set_option maxHeartbeats 4000000 in
theorem law_bigIntCmp (W : World) (ng0 : Bool) (v0 : Value) (zs0 : List Int) (h0 : RowOf iV W v0 zs0) (_ : True) (ng1 : Bool) (v1 : Value) (zs1 : List Int) (h1 : RowOf iV W v1 zs1) (_ : True) :
    Calls Try.prog 10 #[.agg #[.bool ng0, v0], .agg #[.bool ng1, v1]] W fun e w' => e = .returned (.bool true) ∧ Below W.heap.size W w' := by
  have R0 := Lib.hid h0
  obtain ⟨a0, c0, rfl, hc0, hm0, hr0⟩ := h0
  clear hr0
  unfold maxLen at hm0
  obtain ⟨m0, hm0'⟩ : ∃ n, zs0.length = n := ⟨_, rfl⟩
  rw [hm0'] at hc0 R0 ⊢
  have N0 := Lib.hid hm0'
  clear hm0'
  have R1 := Lib.hid h1
  obtain ⟨a1, c1, rfl, hc1, hm1, hr1⟩ := h1
  clear hr1
  unfold maxLen at hm1
  obtain ⟨m1, hm1'⟩ : ∃ n, zs1.length = n := ⟨_, rfl⟩
  rw [hm1'] at hc1 R1 ⊢
  have N1 := Lib.hid hm1'
  clear hm1'
  by_cases hl0 : m0 ≤ 1048576
  rotate_left
  · go_enter Try.func10, Try.ntmps10
    go_wp2_with fail
    obtain ⟨W0, hW0⟩ : ∃ x, x = ((W.alloc (.cells #[.bool ng0, .slice a0 m0 c0] 24)).alloc (.cells #[.bool ng1, .slice a1 m1 c1] 24)) := ⟨_, rfl⟩
    have B := Lib.hid (show Below W.heap.size W W0 by rw [hW0]; exact ((Below.refl W.heap.size W).alloc (Nat.le_refl _) (.cells #[.bool ng0, .slice a0 m0 c0] 24)).alloc (by simp) (.cells #[.bool ng1, .slice a1 m1 c1] 24))
    have D_a0 := Lib.hid (bx_at (show Bx W0 _ 24 ng0 (.slice a0 m0 c0) by rw [hW0]; exact (Bx.new _ _ _ _).alloc _) (show W.heap.size = _ by simp))
    have D_a1 := Lib.hid (bx_at (show Bx W0 _ 24 ng1 (.slice a1 m1 c1) by rw [hW0]; exact Bx.new _ _ _ _) (show (W.heap.size + 1) = _ by simp))
    rw [← hW0]
    clear hW0
    refine (sz_big_no ng0 a0 m0 c0 (1048576) _ (by omega) (by omega)).mono ?_
    rintro e w0' ⟨rfl, bz0⟩
    replace D_a1 := Lib.hid (D_a1.out.below bz0)
    replace B := Lib.hid (B.out.trans (bz0.mono B.out.size))
    clear bz0
    go_wp2
    go_ret
    exact ⟨rfl, B.out⟩
  by_cases hl1 : m0 + m1 ≤ 1048576
  rotate_left
  · go_enter Try.func10, Try.ntmps10
    go_wp2_with fail
    obtain ⟨W0, hW0⟩ : ∃ x, x = ((W.alloc (.cells #[.bool ng0, .slice a0 m0 c0] 24)).alloc (.cells #[.bool ng1, .slice a1 m1 c1] 24)) := ⟨_, rfl⟩
    have B := Lib.hid (show Below W.heap.size W W0 by rw [hW0]; exact ((Below.refl W.heap.size W).alloc (Nat.le_refl _) (.cells #[.bool ng0, .slice a0 m0 c0] 24)).alloc (by simp) (.cells #[.bool ng1, .slice a1 m1 c1] 24))
    have D_a0 := Lib.hid (bx_at (show Bx W0 _ 24 ng0 (.slice a0 m0 c0) by rw [hW0]; exact (Bx.new _ _ _ _).alloc _) (show W.heap.size = _ by simp))
    have D_a1 := Lib.hid (bx_at (show Bx W0 _ 24 ng1 (.slice a1 m1 c1) by rw [hW0]; exact Bx.new _ _ _ _) (show (W.heap.size + 1) = _ by simp))
    rw [← hW0]
    clear hW0
    refine (sz_big_yes ng0 a0 m0 c0 (1048576) _ (by omega) (by omega)).mono ?_
    rintro e w0' ⟨rfl, bz0⟩
    replace D_a1 := Lib.hid (D_a1.out.below bz0)
    replace B := Lib.hid (B.out.trans (bz0.mono B.out.size))
    clear bz0
    have c0_a1 := D_a1.out.c0
    have c1_a1 := D_a1.out.c1
    go_wp2_with fail
    refine (sz_big_no ng1 a1 m1 c1 (1048576 - (m0 : Int)) _ (by omega) (by omega)).mono ?_
    rintro e w1' ⟨rfl, bz1⟩
    clear c0_a1 c1_a1
    replace B := Lib.hid (B.out.trans (bz1.mono B.out.size))
    clear bz1
    go_wp2
    go_ret
    exact ⟨rfl, B.out⟩
  go_enter Try.func10, Try.ntmps10
  go_wp2_with fail
  obtain ⟨W0, hW0⟩ : ∃ x, x = ((W.alloc (.cells #[.bool ng0, .slice a0 m0 c0] 24)).alloc (.cells #[.bool ng1, .slice a1 m1 c1] 24)) := ⟨_, rfl⟩
  have B := Lib.hid (show Below W.heap.size W W0 by rw [hW0]; exact ((Below.refl W.heap.size W).alloc (Nat.le_refl _) (.cells #[.bool ng0, .slice a0 m0 c0] 24)).alloc (by simp) (.cells #[.bool ng1, .slice a1 m1 c1] 24))
  have D_a0 := Lib.hid (bx_at (show Bx W0 _ 24 ng0 (.slice a0 m0 c0) by rw [hW0]; exact (Bx.new _ _ _ _).alloc _) (show W.heap.size = _ by simp))
  have D_a1 := Lib.hid (bx_at (show Bx W0 _ 24 ng1 (.slice a1 m1 c1) by rw [hW0]; exact Bx.new _ _ _ _) (show (W.heap.size + 1) = _ by simp))
  rw [← hW0]
  clear hW0
  have z0 := Lib.hid (show W.heap.size ≤ W0.heap.size from B.out.size)
  refine (sz_big_yes ng0 a0 m0 c0 (1048576) _ (by omega) (by omega)).mono ?_
  rintro e w1 ⟨rfl, b1⟩
  have z1 := Lib.hid b1.size
  replace D_a0 := Lib.hid (D_a0.out.below b1)
  replace D_a1 := Lib.hid (D_a1.out.below b1)
  replace B := Lib.hid (B.out.trans (b1.mono B.out.size))
  clear b1
  have c0_a1 := D_a1.out.c0
  have c1_a1 := D_a1.out.c1
  go_wp2_with fail
  clear c0_a1 c1_a1
  refine (sz_big_yes ng1 a1 m1 c1 (1048576 - (m0 : Int)) _ (by omega) (by omega)).mono ?_
  rintro e w2 ⟨rfl, b2⟩
  have z2 := Lib.hid b2.size
  replace D_a0 := Lib.hid (D_a0.out.below b2)
  replace D_a1 := Lib.hid (D_a1.out.below b2)
  replace B := Lib.hid (B.out.trans (b2.mono B.out.size))
  clear b2
  go_wp2_with fail
  have c0_a0 := D_a0.out.c0
  have c1_a0 := D_a0.out.c1
  have c0_a1 := D_a1.out.c0
  have c1_a1 := D_a1.out.c1
  have lt_a0 := D_a0.out.lt
  have lt_a1 := D_a1.out.lt
  go_region_held3 (fun w' => w'.cell? ⟨W.heap.size, 0, none⟩ = some (.bool ng0) ∧ w'.cell? ⟨W.heap.size, 1, none⟩ = some (.slice a0 m0 c0) ∧ w'.cell? ⟨(W.heap.size + 1), 0, none⟩ = some (.bool ng1) ∧ w'.cell? ⟨(W.heap.size + 1), 1, none⟩ = some (.slice a1 m1 c1)) (first | exact ⟨d5_0_a0, d5_1_a0, d5_0_a1, d5_1_a1⟩ | exact ⟨d4_0_a0, d4_1_a0, d4_0_a1, d4_1_a1⟩ | exact ⟨d3_0_a0, d3_1_a0, d3_0_a1, d3_1_a1⟩ | exact ⟨c0_a0, c1_a0, c0_a1, c1_a1⟩)
    (first
      | (have := bb4; go_at_call 31; refine (spec_bigCmp ng0 _ zs0 ng1 _ zs1 _  (rowOf_below o_t1.row b4) o_t2.row).mono ?_; rintro e w5 ⟨rfl, b5⟩; have bb5 : Below w2.heap.size w2 w5 := bb4.trans (b5.mono bb4.size); have d5_0_a0 := (bb5.cell (p := ⟨W.heap.size, 0, none⟩) lt_a0).trans c0_a0; have d5_1_a0 := (bb5.cell (p := ⟨W.heap.size, 1, none⟩) lt_a0).trans c1_a0; have d5_0_a1 := (bb5.cell (p := ⟨(W.heap.size + 1), 0, none⟩) lt_a1).trans c0_a1; have d5_1_a1 := (bb5.cell (p := ⟨(W.heap.size + 1), 1, none⟩) lt_a1).trans c1_a1)
      | (have := bb3; go_at_call 14; refine (to_bigs _ zs1 _ (rowOf_below R1.out (B.out.trans (Below.mono bb3 B.out.size))) (by rw [N1.out]; omega)).mono ?_; rintro e w4 ⟨v_t2, rfl, o_t2, b4⟩; obtain ⟨a_t2, c_t2, rfl⟩ := o_t2.slice; have bb4 : Below w2.heap.size w2 w4 := bb3.trans (b4.mono bb3.size); have d4_0_a0 := (bb4.cell (p := ⟨W.heap.size, 0, none⟩) lt_a0).trans c0_a0; have d4_1_a0 := (bb4.cell (p := ⟨W.heap.size, 1, none⟩) lt_a0).trans c1_a0; have d4_0_a1 := (bb4.cell (p := ⟨(W.heap.size + 1), 0, none⟩) lt_a1).trans c0_a1; have d4_1_a1 := (bb4.cell (p := ⟨(W.heap.size + 1), 1, none⟩) lt_a1).trans c1_a1)
      | (go_at_call 14; refine (to_bigs _ zs0 _ (rowOf_below R0.out (B.out.trans (Below.mono (by first | exact Below.refl _ _ | exact (Below.refl _ _).drew) B.out.size))) (by rw [N0.out]; omega)).mono ?_; rintro e w3 ⟨v_t1, rfl, o_t1, b3⟩; obtain ⟨a_t1, c_t1, rfl⟩ := o_t1.slice; have bb3 : Below w2.heap.size w2 w3 := (by first | exact b3 | exact ((Below.refl _ _).drew).trans b3); have d3_0_a0 := (bb3.cell (p := ⟨W.heap.size, 0, none⟩) lt_a0).trans c0_a0; have d3_1_a0 := (bb3.cell (p := ⟨W.heap.size, 1, none⟩) lt_a0).trans c1_a0; have d3_0_a1 := (bb3.cell (p := ⟨(W.heap.size + 1), 0, none⟩) lt_a1).trans c0_a1; have d3_1_a1 := (bb3.cell (p := ⟨(W.heap.size + 1), 1, none⟩) lt_a1).trans c1_a1))
  clear b3
  have b3 := bb3
  replace o_t1 : OwnI w3 w2.heap.size _ _ := o_t1
  have z3 := Lib.hid b3.size
  replace D_a0 := Lib.hid (D_a0.out.below b3)
  replace D_a1 := Lib.hid (D_a1.out.below b3)
  replace B := Lib.hid (B.out.trans (b3.mono B.out.size))
  have O_t1 := Lib.hid o_t1
  have L_t1 := Lib.hid o_t1.lt
  clear o_t1
  clear b3
  clear d3_0_a0 d3_1_a0
  clear d3_0_a1 d3_1_a1
  have z4 := Lib.hid b4.size
  replace O_t1 := Lib.hid (O_t1.out.below b4)
  replace D_a0 := Lib.hid (D_a0.out.below b4)
  replace D_a1 := Lib.hid (D_a1.out.below b4)
  replace B := Lib.hid (B.out.trans (b4.mono B.out.size))
  have O_t2 := Lib.hid o_t2
  have L_t2 := Lib.hid o_t2.lt
  clear o_t2
  clear b4
  clear d4_0_a0 d4_1_a0
  clear d4_0_a1 d4_1_a1
  have z5 := Lib.hid b5.size
  replace O_t1 := Lib.hid (O_t1.out.below b5)
  replace O_t2 := Lib.hid (O_t2.out.below b5)
  replace D_a0 := Lib.hid (D_a0.out.below b5)
  replace D_a1 := Lib.hid (D_a1.out.below b5)
  replace B := Lib.hid (B.out.trans (b5.mono B.out.size))
  clear b5
  clear d5_0_a0 d5_1_a0
  clear d5_0_a1 d5_1_a1
  clear bb3 bb4 bb5
  clear c0_a0 c1_a0
  clear c0_a1 c1_a1
  clear lt_a0
  clear lt_a1
  clear O_t1 L_t1
  clear O_t2 L_t2
  have c0_a0 := D_a0.out.c0
  have c1_a0 := D_a0.out.c1
  go_wp2_with fail
  clear c0_a0 c1_a0
  refine (to_bigs _ zs0 _ (rowOf_below R0.out B.out) (by rw [N0.out]; omega)).mono ?_
  rintro e w6 ⟨v_t3, rfl, o_t3, b6⟩
  obtain ⟨a_t3, c_t3, rfl⟩ := o_t3.slice
  have z6 := Lib.hid b6.size
  replace D_a0 := Lib.hid (D_a0.out.below b6)
  replace D_a1 := Lib.hid (D_a1.out.below b6)
  replace B := Lib.hid (B.out.trans (b6.mono B.out.size))
  have O_t3 := Lib.hid o_t3
  have L_t3 := Lib.hid o_t3.lt
  clear o_t3
  clear b6
  have c0_a1 := D_a1.out.c0
  have c1_a1 := D_a1.out.c1
  have hz := B.out.size
  have lt_a1 := D_a1.out.lt
  go_wp2_with fail
  clear c0_a1 c1_a1
  clear hz
  clear lt_a1
  obtain ⟨w7, hW0⟩ : ∃ x, x = w6.alloc (.cells #[.bool ng0, .slice a_t3 (zs0).length c_t3] 27) := ⟨_, rfl⟩
  replace O_t3 := Lib.hid (show OwnI w7 _ _ _ by rw [hW0]; exact O_t3.out.alloc _)
  replace D_a0 := Lib.hid (show Bx w7 _ _ _ _ by rw [hW0]; exact D_a0.out.alloc _)
  replace D_a1 := Lib.hid (show Bx w7 _ _ _ _ by rw [hW0]; exact D_a1.out.alloc _)
  have D_t3 := Lib.hid (show Bx w7 w6.heap.size 27 ng0 (.slice a_t3 (zs0).length c_t3) by rw [hW0]; exact Bx.new _ _ _ _)
  replace B := Lib.hid (show Below W.heap.size W w7 by rw [hW0]; exact B.out.alloc B.out.size _)
  have z7 := Lib.hid (show w6.heap.size ≤ w7.heap.size by rw [hW0]; simp)
  rw [← hW0]
  clear hW0
  refine (to_bigs _ zs1 _ (rowOf_below R1.out B.out) (by rw [N1.out]; omega)).mono ?_
  rintro e w8 ⟨v_t4, rfl, o_t4, b8⟩
  obtain ⟨a_t4, c_t4, rfl⟩ := o_t4.slice
  have z8 := Lib.hid b8.size
  replace O_t3 := Lib.hid (O_t3.out.below b8)
  replace D_a0 := Lib.hid (D_a0.out.below b8)
  replace D_a1 := Lib.hid (D_a1.out.below b8)
  replace D_t3 := Lib.hid (D_t3.out.below b8)
  replace B := Lib.hid (B.out.trans (b8.mono B.out.size))
  have O_t4 := Lib.hid o_t4
  have L_t4 := Lib.hid o_t4.lt
  clear o_t4
  clear b8
  have c0_t3 := D_t3.out.c0
  have c1_t3 := D_t3.out.c1
  have hz := B.out.size
  have lt_t3 := D_t3.out.lt
  go_wp2_with fail
  clear c0_t3 c1_t3
  clear hz
  clear lt_t3
  obtain ⟨w9, hW0⟩ : ∃ x, x = w8.alloc (.cells #[.bool ng1, .slice a_t4 (zs1).length c_t4] 27) := ⟨_, rfl⟩
  replace O_t3 := Lib.hid (show OwnI w9 _ _ _ by rw [hW0]; exact O_t3.out.alloc _)
  replace O_t4 := Lib.hid (show OwnI w9 _ _ _ by rw [hW0]; exact O_t4.out.alloc _)
  replace D_a0 := Lib.hid (show Bx w9 _ _ _ _ by rw [hW0]; exact D_a0.out.alloc _)
  replace D_a1 := Lib.hid (show Bx w9 _ _ _ _ by rw [hW0]; exact D_a1.out.alloc _)
  replace D_t3 := Lib.hid (show Bx w9 _ _ _ _ by rw [hW0]; exact D_t3.out.alloc _)
  have D_t4 := Lib.hid (show Bx w9 w8.heap.size 27 ng1 (.slice a_t4 (zs1).length c_t4) by rw [hW0]; exact Bx.new _ _ _ _)
  replace B := Lib.hid (show Below W.heap.size W w9 by rw [hW0]; exact B.out.alloc B.out.size _)
  have z9 := Lib.hid (show w8.heap.size ≤ w9.heap.size by rw [hW0]; simp)
  rw [← hW0]
  clear hW0
  refine (impl_bigCmp ng0 _ zs0 ng1 _ zs1 _  O_t3.out.row O_t4.out.row).mono ?_
  rintro e w10 ⟨rfl, b10⟩
  have z10 := Lib.hid b10.size
  replace O_t3 := Lib.hid (O_t3.out.below b10)
  replace O_t4 := Lib.hid (O_t4.out.below b10)
  replace D_a0 := Lib.hid (D_a0.out.below b10)
  replace D_a1 := Lib.hid (D_a1.out.below b10)
  replace D_t3 := Lib.hid (D_t3.out.below b10)
  replace D_t4 := Lib.hid (D_t4.out.below b10)
  replace B := Lib.hid (B.out.trans (b10.mono B.out.size))
  clear b10
  go_wp2_with fail
  go_wp2_with fail
  have c0_t3 := D_t3.out.c0
  have c1_t3 := D_t3.out.c1
  have c0_a0 := D_a0.out.c0
  have c1_a0 := D_a0.out.c1
  have lt_t3 := D_t3.out.lt
  have lt_a0 := D_a0.out.lt
  go_region_held3 (fun w' => w'.cell? ⟨w6.heap.size, 0, none⟩ = some (.bool ng0) ∧ w'.cell? ⟨w6.heap.size, 1, none⟩ = some (.slice a_t3 (zs0).length c_t3) ∧ w'.cell? ⟨W.heap.size, 0, none⟩ = some (.bool ng0) ∧ w'.cell? ⟨W.heap.size, 1, none⟩ = some (.slice a0 m0 c0)) (first | exact ⟨d12_0_t3, d12_1_t3, d12_0_a0, d12_1_a0⟩ | exact ⟨d11_0_t3, d11_1_t3, d11_0_a0, d11_1_a0⟩ | exact ⟨c0_t3, c1_t3, c0_a0, c1_a0⟩)
    (first
      | (have := bb11; go_at_call 16; refine (eq_bigsB _ _ _ _ (rowOf_below O_t3.out.row bb11) o_t5.row).mono ?_; rintro e w12 ⟨rfl, b12⟩; have bb12 : Below w10.heap.size w10 w12 := bb11.trans (b12.mono bb11.size); have d12_0_t3 := (bb12.cell (p := ⟨w6.heap.size, 0, none⟩) lt_t3).trans c0_t3; have d12_1_t3 := (bb12.cell (p := ⟨w6.heap.size, 1, none⟩) lt_t3).trans c1_t3; have d12_0_a0 := (bb12.cell (p := ⟨W.heap.size, 0, none⟩) lt_a0).trans c0_a0; have d12_1_a0 := (bb12.cell (p := ⟨W.heap.size, 1, none⟩) lt_a0).trans c1_a0)
      | (go_at_call 14; refine (to_bigs _ zs0 _ (rowOf_below R0.out (B.out.trans (Below.mono (by first | exact Below.refl _ _ | exact (Below.refl _ _).drew) B.out.size))) (by rw [N0.out]; omega)).mono ?_; rintro e w11 ⟨v_t5, rfl, o_t5, b11⟩; obtain ⟨a_t5, c_t5, rfl⟩ := o_t5.slice; have bb11 : Below w10.heap.size w10 w11 := (by first | exact b11 | exact ((Below.refl _ _).drew).trans b11); have d11_0_t3 := (bb11.cell (p := ⟨w6.heap.size, 0, none⟩) lt_t3).trans c0_t3; have d11_1_t3 := (bb11.cell (p := ⟨w6.heap.size, 1, none⟩) lt_t3).trans c1_t3; have d11_0_a0 := (bb11.cell (p := ⟨W.heap.size, 0, none⟩) lt_a0).trans c0_a0; have d11_1_a0 := (bb11.cell (p := ⟨W.heap.size, 1, none⟩) lt_a0).trans c1_a0))
  clear b11
  have b11 := bb11
  replace o_t5 : OwnI w11 w10.heap.size _ _ := o_t5
  have z11 := Lib.hid b11.size
  replace O_t3 := Lib.hid (O_t3.out.below b11)
  replace O_t4 := Lib.hid (O_t4.out.below b11)
  replace D_a0 := Lib.hid (D_a0.out.below b11)
  replace D_a1 := Lib.hid (D_a1.out.below b11)
  replace D_t3 := Lib.hid (D_t3.out.below b11)
  replace D_t4 := Lib.hid (D_t4.out.below b11)
  replace B := Lib.hid (B.out.trans (b11.mono B.out.size))
  have O_t5 := Lib.hid o_t5
  have L_t5 := Lib.hid o_t5.lt
  clear o_t5
  clear b11
  clear d11_0_t3 d11_1_t3
  clear d11_0_a0 d11_1_a0
  have z12 := Lib.hid b12.size
  replace O_t3 := Lib.hid (O_t3.out.below b12)
  replace O_t4 := Lib.hid (O_t4.out.below b12)
  replace O_t5 := Lib.hid (O_t5.out.below b12)
  replace D_a0 := Lib.hid (D_a0.out.below b12)
  replace D_a1 := Lib.hid (D_a1.out.below b12)
  replace D_t3 := Lib.hid (D_t3.out.below b12)
  replace D_t4 := Lib.hid (D_t4.out.below b12)
  replace B := Lib.hid (B.out.trans (b12.mono B.out.size))
  clear b12
  clear d12_0_t3 d12_1_t3
  clear d12_0_a0 d12_1_a0
  clear bb11 bb12
  clear c0_t3 c1_t3
  clear c0_a0 c1_a0
  clear lt_t3
  clear lt_a0
  clear O_t5 L_t5
  go_wp2_with fail
  go_wp2_with fail
  have c0_t4 := D_t4.out.c0
  have c1_t4 := D_t4.out.c1
  have c0_a1 := D_a1.out.c0
  have c1_a1 := D_a1.out.c1
  have lt_t4 := D_t4.out.lt
  have lt_a1 := D_a1.out.lt
  go_region_held3 (fun w' => w'.cell? ⟨w8.heap.size, 0, none⟩ = some (.bool ng1) ∧ w'.cell? ⟨w8.heap.size, 1, none⟩ = some (.slice a_t4 (zs1).length c_t4) ∧ w'.cell? ⟨(W.heap.size + 1), 0, none⟩ = some (.bool ng1) ∧ w'.cell? ⟨(W.heap.size + 1), 1, none⟩ = some (.slice a1 m1 c1)) (first | exact ⟨d14_0_t4, d14_1_t4, d14_0_a1, d14_1_a1⟩ | exact ⟨d13_0_t4, d13_1_t4, d13_0_a1, d13_1_a1⟩ | exact ⟨c0_t4, c1_t4, c0_a1, c1_a1⟩)
    (first
      | (have := bb13; go_at_call 16; refine (eq_bigsB _ _ _ _ (rowOf_below O_t4.out.row bb13) o_t6.row).mono ?_; rintro e w14 ⟨rfl, b14⟩; have bb14 : Below w12.heap.size w12 w14 := bb13.trans (b14.mono bb13.size); have d14_0_t4 := (bb14.cell (p := ⟨w8.heap.size, 0, none⟩) lt_t4).trans c0_t4; have d14_1_t4 := (bb14.cell (p := ⟨w8.heap.size, 1, none⟩) lt_t4).trans c1_t4; have d14_0_a1 := (bb14.cell (p := ⟨(W.heap.size + 1), 0, none⟩) lt_a1).trans c0_a1; have d14_1_a1 := (bb14.cell (p := ⟨(W.heap.size + 1), 1, none⟩) lt_a1).trans c1_a1)
      | (go_at_call 14; refine (to_bigs _ zs1 _ (rowOf_below R1.out (B.out.trans (Below.mono (by first | exact Below.refl _ _ | exact (Below.refl _ _).drew) B.out.size))) (by rw [N1.out]; omega)).mono ?_; rintro e w13 ⟨v_t6, rfl, o_t6, b13⟩; obtain ⟨a_t6, c_t6, rfl⟩ := o_t6.slice; have bb13 : Below w12.heap.size w12 w13 := (by first | exact b13 | exact ((Below.refl _ _).drew).trans b13); have d13_0_t4 := (bb13.cell (p := ⟨w8.heap.size, 0, none⟩) lt_t4).trans c0_t4; have d13_1_t4 := (bb13.cell (p := ⟨w8.heap.size, 1, none⟩) lt_t4).trans c1_t4; have d13_0_a1 := (bb13.cell (p := ⟨(W.heap.size + 1), 0, none⟩) lt_a1).trans c0_a1; have d13_1_a1 := (bb13.cell (p := ⟨(W.heap.size + 1), 1, none⟩) lt_a1).trans c1_a1))
  clear b13
  have b13 := bb13
  replace o_t6 : OwnI w13 w12.heap.size _ _ := o_t6
  have z13 := Lib.hid b13.size
  replace O_t3 := Lib.hid (O_t3.out.below b13)
  replace O_t4 := Lib.hid (O_t4.out.below b13)
  replace D_a0 := Lib.hid (D_a0.out.below b13)
  replace D_a1 := Lib.hid (D_a1.out.below b13)
  replace D_t3 := Lib.hid (D_t3.out.below b13)
  replace D_t4 := Lib.hid (D_t4.out.below b13)
  replace B := Lib.hid (B.out.trans (b13.mono B.out.size))
  have O_t6 := Lib.hid o_t6
  have L_t6 := Lib.hid o_t6.lt
  clear o_t6
  clear b13
  clear d13_0_t4 d13_1_t4
  clear d13_0_a1 d13_1_a1
  have z14 := Lib.hid b14.size
  replace O_t3 := Lib.hid (O_t3.out.below b14)
  replace O_t4 := Lib.hid (O_t4.out.below b14)
  replace O_t6 := Lib.hid (O_t6.out.below b14)
  replace D_a0 := Lib.hid (D_a0.out.below b14)
  replace D_a1 := Lib.hid (D_a1.out.below b14)
  replace D_t3 := Lib.hid (D_t3.out.below b14)
  replace D_t4 := Lib.hid (D_t4.out.below b14)
  replace B := Lib.hid (B.out.trans (b14.mono B.out.size))
  clear b14
  clear d14_0_t4 d14_1_t4
  clear d14_0_a1 d14_1_a1
  clear bb13 bb14
  clear c0_t4 c1_t4
  clear c0_a1 c1_a1
  clear lt_t4
  clear lt_a1
  clear O_t6 L_t6
  go_wp2
  go_ret
  exact ⟨rfl, B.out⟩


end Go.Proofs.Ytofmpfcbdemcnaa
