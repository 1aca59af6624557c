/- BigIntCmp of the program and of the model; its exact law. -/
import Derived.Test.YtgoonbjhfbnaiaaSigned
namespace Go.Proofs.Ytgoonbjhfbnaiaa
open Go.RowKit

def sgCmp (b0 : Bool) (x : Nat) (b1 : Bool) (y : Nat) : Int := if b0 then (if b1 then cmpN y x else -1) else (if b1 then 1 else cmpN x y)
theorem sgCmp_ff (x y : Nat) : sgCmp false x false y = cmpN x y := rfl
theorem sgCmp_tt (x y : Nat) : sgCmp true x true y = cmpN y x := rfl
theorem sgCmp_tf (x y : Nat) : sgCmp true x false y = -1 := rfl
theorem sgCmp_ft (x y : Nat) : sgCmp false x true y = 1 := rfl
def bigCmp (b0 : Bool) (zs0 : List Int) (b1 : Bool) (zs1 : List Int) : Int := if bigOk b0 zs0 && bigOk b1 zs1 then sgCmp b0 (natI zs0) b1 (natI zs1) else 0
theorem bigCmp_yes {b0 b1 : Bool} {x y : Nat} (h0 : bigOk b0 (limI x) = true) (h1 : bigOk b1 (limI y) = true) : bigCmp b0 (limI x) b1 (limI y) = sgCmp b0 x b1 y := by unfold bigCmp; rw [h0, h1, natI_limI, natI_limI]; rfl
theorem bigCmp_no {b0 b1 : Bool} {zs0 zs1 : List Int} (h : bigOk b0 zs0 = false ∨ bigOk b1 zs1 = false) : bigCmp b0 zs0 b1 zs1 = 0 := by unfold bigCmp; rcases h with h | h <;> rw [h] <;> simp

set_option maxHeartbeats 1000000 in
theorem spec_cmpBig (b0 : Bool) (va : Value) (x : Nat) (b1 : Bool) (vb : Value) (y : Nat) (w : World) (ha : RowOf iV w va (limI x)) (hb : RowOf iV w vb (limI y)) (hx : nlen x ≤ 400) (hy : nlen y ≤ 400) :
    Calls Try.prog 113 #[.agg #[.bool b0, va], .agg #[.bool b1, vb]] w fun e w' => e = .returned (.int .i64 (sgCmp b0 x b1 y)) ∧ Below w.heap.size w w' := by
  have T0 := Lib.hid (fun W (hW : Below w.heap.size w W) => spec_cmp va vb x y W (rowOf_below ha hW) (rowOf_below hb hW) (by omega) (by omega))
  have T1 := Lib.hid (fun W (hW : Below w.heap.size w W) => spec_cmp vb va y x W (rowOf_below hb hW) (rowOf_below ha hW) (by omega) (by omega))
  obtain ⟨aa, ca, rfl, h1, h2, h3⟩ := ha
  obtain ⟨ab, cb, rfl, h4, h5, h6⟩ := hb
  clear h1 h2 h3 h4 h5 h6 hx hy
  generalize hm : (limI x).length = nx at *
  generalize hm' : (limI y).length = ny at *
  clear hm hm'
  cases b0 with
  | false =>
    cases b1 with
    | false =>
      rw [sgCmp_ff]
      go_enter Try.func113, Try.ntmps113
      go_wp2_with fail
      refine (T0.out _ (((Below.refl _ _).alloc (Nat.le_refl _) _).alloc (by simp) _)).mono ?_
      rintro e w1 ⟨rfl, bw1⟩
      have BB := (((Below.refl _ _).alloc (Nat.le_refl _) _).alloc (by simp) _).trans (bw1.mono (by simp; omega))
      clear bw1
      go_wp2
      go_ret
      exact ⟨rfl, BB⟩
    | true =>
      rw [sgCmp_ft]
      go_enter Try.func113, Try.ntmps113
      go_wp2
      go_ret
      exact ⟨rfl, (((Below.refl _ _).alloc (Nat.le_refl _) _).alloc (by simp) _)⟩
  | true =>
    cases b1 with
    | false =>
      rw [sgCmp_tf]
      go_enter Try.func113, Try.ntmps113
      go_wp2
      go_ret
      exact ⟨rfl, (((Below.refl _ _).alloc (Nat.le_refl _) _).alloc (by simp) _)⟩
    | true =>
      rw [sgCmp_tt]
      go_enter Try.func113, Try.ntmps113
      go_wp2_with fail
      refine (T1.out _ (((Below.refl _ _).alloc (Nat.le_refl _) _).alloc (by simp) _)).mono ?_
      rintro e w1 ⟨rfl, bw1⟩
      have BB := (((Below.refl _ _).alloc (Nat.le_refl _) _).alloc (by simp) _).trans (bw1.mono (by simp; omega))
      clear bw1
      go_wp2
      go_ret
      exact ⟨rfl, BB⟩

set_option maxHeartbeats 1000000 in
theorem impl_bigCmp (b0 : Bool) (va : Value) (zs0 : List Int) (b1 : Bool) (vb : Value) (zs1 : List Int) (w : World) (ha : RowOf iV w va zs0) (hb : RowOf iV w vb zs1) :
    Calls Try.prog 89 #[.agg #[.bool b0, va], .agg #[.bool b1, vb]] w fun e w' => e = .returned (.int .i64 (bigCmp b0 zs0 b1 zs1)) ∧ Below w.heap.size w w' := by
  have K0 := Lib.hid (fun W (hW : Below w.heap.size w W) => impl_bigOk b0 va zs0 W (rowOf_below ha hW))
  have K1 := Lib.hid (fun W (hW : Below w.heap.size w W) => impl_bigOk b1 vb zs1 W (rowOf_below hb hW))
  cases e0 : bigOk b0 zs0 with
  | false =>
    have HE := Lib.hid (bigCmp_no (zs0 := zs0) (b1 := b1) (zs1 := zs1) (.inl e0))
    rw [e0] at K0
    clear e0
    rw [HE.out]
    obtain ⟨aa, ca, rfl, h1, h2, h3⟩ := ha
    obtain ⟨ab, cb, rfl, h4, h5, h6⟩ := hb
    clear h1 h2 h3 h4 h5 h6
    go_enter Try.func89, Try.ntmps89
    go_wp2_with fail
    refine (K0.out _ (((Below.refl _ _).alloc (Nat.le_refl _) _).alloc (by simp) _)).mono ?_
    rintro e w' ⟨rfl, rfl⟩
    go_wp2
    go_ret
    exact ⟨rfl, ((((Below.refl _ _).alloc (Nat.le_refl _) _).alloc (by simp) _).alloc (by simp; omega) _)⟩
  | true =>
    cases e1 : bigOk b1 zs1 with
    | false =>
      have HE := Lib.hid (bigCmp_no (b0 := b0) (zs0 := zs0) (zs1 := zs1) (.inr e1))
      rw [e0] at K0
      rw [e1] at K1
      clear e0 e1
      rw [HE.out]
      obtain ⟨aa, ca, rfl, h1, h2, h3⟩ := ha
      obtain ⟨ab, cb, rfl, h4, h5, h6⟩ := hb
      clear h1 h2 h3 h4 h5 h6
      go_enter Try.func89, Try.ntmps89
      go_wp2_with fail
      refine (K0.out _ (((Below.refl _ _).alloc (Nat.le_refl _) _).alloc (by simp) _)).mono ?_
      rintro e w' ⟨rfl, rfl⟩
      go_wp2_with fail
      refine (K1.out _ ((((Below.refl _ _).alloc (Nat.le_refl _) _).alloc (by simp) _).alloc (by simp; omega) _)).mono ?_
      rintro e w' ⟨rfl, rfl⟩
      go_wp2
      go_ret
      exact ⟨rfl, (((((Below.refl _ _).alloc (Nat.le_refl _) _).alloc (by simp) _).alloc (by simp; omega) _).alloc (by simp; omega) _)⟩
    | true =>
      obtain ⟨x, rfl, hx⟩ := okB_cases (bigOk_ok e0)
      obtain ⟨y, rfl, hy⟩ := okB_cases (bigOk_ok e1)
      rw [bigCmp_yes e0 e1]
      rw [e0] at K0
      rw [e1] at K1
      have hx60 := (nlen_le_iff _ _).2 hx
      have hy60 := (nlen_le_iff _ _).2 hy
      have T0 := Lib.hid (fun W (hW : Below w.heap.size w W) => impl_compare va vb x y W (rowOf_below ha hW) (rowOf_below hb hW) (by omega) (by omega))
      have T1 := Lib.hid (fun W (hW : Below w.heap.size w W) => impl_compare vb va y x W (rowOf_below hb hW) (rowOf_below ha hW) (by omega) (by omega))
      obtain ⟨aa, ca, rfl, h1, h2, h3⟩ := ha
      obtain ⟨ab, cb, rfl, h4, h5, h6⟩ := hb
      clear h1 h2 h3 h4 h5 h6
      clear e0 e1 hx hy hx60 hy60
      cases b0 with
      | false =>
        cases b1 with
        | false =>
          rw [sgCmp_ff]
          go_enter Try.func89, Try.ntmps89
          go_wp2_with fail
          refine (K0.out _ (((Below.refl _ _).alloc (Nat.le_refl _) _).alloc (by simp) _)).mono ?_
          rintro e w' ⟨rfl, rfl⟩
          go_wp2_with fail
          refine (K1.out _ ((((Below.refl _ _).alloc (Nat.le_refl _) _).alloc (by simp) _).alloc (by simp; omega) _)).mono ?_
          rintro e w' ⟨rfl, rfl⟩
          go_wp2_with fail
          refine (T0.out _ (((((Below.refl _ _).alloc (Nat.le_refl _) _).alloc (by simp) _).alloc (by simp; omega) _).alloc (by simp; omega) _)).mono ?_
          rintro e w1 ⟨rfl, bw1⟩
          have BB := (((((Below.refl _ _).alloc (Nat.le_refl _) _).alloc (by simp) _).alloc (by simp; omega) _).alloc (by simp; omega) _).trans (bw1.mono (by simp; omega))
          clear bw1
          go_wp2
          go_ret
          exact ⟨rfl, BB⟩
        | true =>
          rw [sgCmp_ft]
          go_enter Try.func89, Try.ntmps89
          go_wp2_with fail
          refine (K0.out _ (((Below.refl _ _).alloc (Nat.le_refl _) _).alloc (by simp) _)).mono ?_
          rintro e w' ⟨rfl, rfl⟩
          go_wp2_with fail
          refine (K1.out _ ((((Below.refl _ _).alloc (Nat.le_refl _) _).alloc (by simp) _).alloc (by simp; omega) _)).mono ?_
          rintro e w' ⟨rfl, rfl⟩
          go_wp2
          go_ret
          exact ⟨rfl, (((((Below.refl _ _).alloc (Nat.le_refl _) _).alloc (by simp) _).alloc (by simp; omega) _).alloc (by simp; omega) _)⟩
      | true =>
        cases b1 with
        | false =>
          rw [sgCmp_tf]
          go_enter Try.func89, Try.ntmps89
          go_wp2_with fail
          refine (K0.out _ (((Below.refl _ _).alloc (Nat.le_refl _) _).alloc (by simp) _)).mono ?_
          rintro e w' ⟨rfl, rfl⟩
          go_wp2_with fail
          refine (K1.out _ ((((Below.refl _ _).alloc (Nat.le_refl _) _).alloc (by simp) _).alloc (by simp; omega) _)).mono ?_
          rintro e w' ⟨rfl, rfl⟩
          go_wp2
          go_ret
          exact ⟨rfl, (((((Below.refl _ _).alloc (Nat.le_refl _) _).alloc (by simp) _).alloc (by simp; omega) _).alloc (by simp; omega) _)⟩
        | true =>
          rw [sgCmp_tt]
          go_enter Try.func89, Try.ntmps89
          go_wp2_with fail
          refine (K0.out _ (((Below.refl _ _).alloc (Nat.le_refl _) _).alloc (by simp) _)).mono ?_
          rintro e w' ⟨rfl, rfl⟩
          go_wp2_with fail
          refine (K1.out _ ((((Below.refl _ _).alloc (Nat.le_refl _) _).alloc (by simp) _).alloc (by simp; omega) _)).mono ?_
          rintro e w' ⟨rfl, rfl⟩
          go_wp2_with fail
          refine (T1.out _ (((((Below.refl _ _).alloc (Nat.le_refl _) _).alloc (by simp) _).alloc (by simp; omega) _).alloc (by simp; omega) _)).mono ?_
          rintro e w1 ⟨rfl, bw1⟩
          have BB := (((((Below.refl _ _).alloc (Nat.le_refl _) _).alloc (by simp) _).alloc (by simp; omega) _).alloc (by simp; omega) _).trans (bw1.mono (by simp; omega))
          clear bw1
          go_wp2
          go_ret
          exact ⟨rfl, BB⟩

end Go.Proofs.Ytgoonbjhfbnaiaa
