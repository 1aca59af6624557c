/- BigIntFloorDiv of the program and of the model; its exact law. -/
import Derived.Test.YtofmpfcbdemcnaaBigOps
import Derived.Test.YtofmpfcbdemcnaaDiv
namespace Go.Proofs.Ytofmpfcbdemcnaa
open Go.RowKit

def fdQ (b : Bool) (x y : Nat) : Nat := if b = true ∧ 0 < x % y then x / y + 1 else x / y
def fdR (b : Bool) (x y : Nat) : Nat := if b = true ∧ 0 < x % y then y - x % y else x % y
theorem fd_plain (x y : Nat) : fdQ false x y = x / y ∧ fdR false x y = x % y := by unfold fdQ fdR; simp
theorem fd_even {x y : Nat} (b : Bool) (h : x % y = 0) : fdQ b x y = x / y ∧ fdR b x y = x % y := by unfold fdQ fdR; simp [h]
theorem fd_down {x y : Nat} (h : 0 < x % y) : fdQ true x y = x / y + 1 ∧ fdR true x y = y - x % y := by unfold fdQ fdR; simp [h]
def fdOk (b : Bool) (zs0 zs1 : List Int) : Bool := bigOk b zs0 && (okB zs1 && decide (natI zs1 ≠ 0))
def fdQL (b : Bool) (zs0 zs1 : List Int) : List Int := if fdOk b zs0 zs1 then capL (fdQ b (natI zs0) (natI zs1)) else []
def fdQB (b : Bool) (zs0 zs1 : List Int) : Bool := if fdOk b zs0 zs1 then sgB b (capL (fdQ b (natI zs0) (natI zs1))) else false
def fdRL (b : Bool) (zs0 zs1 : List Int) : List Int := if fdOk b zs0 zs1 then limI (fdR b (natI zs0) (natI zs1)) else []
theorem fd_no {b : Bool} {zs0 zs1 : List Int} (h : fdOk b zs0 zs1 = false) : fdQB b zs0 zs1 = false ∧ fdQL b zs0 zs1 = [] ∧ fdRL b zs0 zs1 = [] := by unfold fdQB fdQL fdRL; rw [h]; exact ⟨rfl, rfl, rfl⟩
theorem fdOk_big {b : Bool} {zs0 zs1 : List Int} (h : bigOk b zs0 = false) : fdOk b zs0 zs1 = false := by unfold fdOk; rw [h]; rfl
theorem fdOk_nat {b : Bool} {zs0 zs1 : List Int} (h : okB zs1 = false) : fdOk b zs0 zs1 = false := by unfold fdOk; rw [h]; simp
theorem fdOk_zero {b : Bool} {zs0 : List Int} : fdOk b zs0 (limI 0) = false := by unfold fdOk; rw [natI_limI]; simp
theorem fd_yes {b : Bool} {x y : Nat} (h0 : bigOk b (limI x) = true) (h1 : okB (limI y) = true) (hy : y ≠ 0) : fdQB b (limI x) (limI y) = sgB b (capL (fdQ b x y)) ∧ fdQL b (limI x) (limI y) = capL (fdQ b x y) ∧ fdRL b (limI x) (limI y) = limI (fdR b x y) := by
  have h : fdOk b (limI x) (limI y) = true := by unfold fdOk; rw [h0, h1, natI_limI, decide_eq_true hy]; rfl
  unfold fdQB fdQL fdRL
  rw [h, natI_limI, natI_limI]
  exact ⟨rfl, rfl, rfl⟩
theorem fdR_le (b : Bool) {x y : Nat} (hy : 0 < y) : fdR b x y ≤ y := by
  unfold fdR
  have := Nat.mod_lt x hy
  split <;> omega
theorem fdQL_len (b : Bool) (zs0 zs1 : List Int) : (fdQL b zs0 zs1).length ≤ 1000 := by
  unfold fdQL
  split
  · have := capL_len (fdQ b (natI zs0) (natI zs1)); omega
  · simp
theorem fdRL_len (b : Bool) (zs0 zs1 : List Int) : (fdRL b zs0 zs1).length ≤ 1000 := by
  unfold fdRL
  split
  · rename_i h
    unfold fdOk at h
    rw [Bool.and_eq_true, Bool.and_eq_true, decide_eq_true_eq] at h
    obtain ⟨y, hz, hy⟩ := okB_cases h.2.1
    have h2 := h.2.2
    rw [hz, natI_limI] at h2 ⊢
    rw [limI_length]
    have h3 := nlen_mono (fdR_le b (x := natI zs0) (Nat.pos_of_ne_zero h2))
    have h4 := (nlen_le_iff 60 y).2 hy
    omega
  · simp
theorem limI_1 : limI 1 = [1] := by
  have h : nlen 1 = 0 + 1 := nlen_eq (by simp only [pw]; omega) (by simp only [pw]; omega)
  unfold limI
  rw [h]
  rfl
theorem row_cast1 {w : World} {v : Value} {l l' : List Int} (h : RowOf iV w v l) (e : l = l') : RowOf iV w v l' := by rw [← e]; exact h
theorem below_lit {w w' : World} {o : Obj} (h : Below (w.alloc o).heap.size (w.alloc o) w') : Below w.heap.size w w' := ((Below.refl _ _).alloc (Nat.le_refl _) o).trans (h.mono (by simp))

set_option maxHeartbeats 2000000 in
theorem spec_bigFloorDiv (b : Bool) (va : Value) (zs0 : List Int) (vb : Value) (zs1 : List Int) (w : World) (ha : RowOf iV w va zs0) (hb : RowOf iV w vb zs1) :
    Calls Try.prog 33 #[.agg #[.bool b, va], vb] w fun e w' => ∃ v0 v1, e = .returned (.tuple #[.agg #[.bool (fdQB b zs0 zs1), v0], v1]) ∧ OwnI w' w.heap.size v0 (fdQL b zs0 zs1) ∧ OwnI w' w.heap.size v1 (fdRL b zs0 zs1) ∧ Apart v0 v1 ∧ Below w.heap.size w w' := by
  have K0 := Lib.hid (fun W (hW : Below w.heap.size w W) => spec_bigOk b va zs0 W (rowOf_below ha hW))
  have K1 := Lib.hid (fun W (hW : Below w.heap.size w W) => spec_natOk vb zs1 W (rowOf_below hb hW))
  cases e0 : bigOk b zs0 with
  | false =>
    have HE := Lib.hid (fd_no (zs1 := zs1) (fdOk_big e0))
    rw [e0] at K0
    clear e0
    obtain ⟨aa, ca, rfl, h1, h2, h3⟩ := ha
    obtain ⟨ab, cb, rfl, h4, h5, h6⟩ := hb
    clear h1 h2 h3 h4 h5 h6
    go_enter Try.func33, Try.ntmps33
    go_wp2_with fail
    refine (K0.out _ (((Below.refl _ _).alloc (Nat.le_refl _) _).alloc (by simp) _)).mono ?_
    rintro e w' ⟨rfl, rfl⟩
    go_wp2
    exact bodyPost_ret (v := .tuple #[.agg #[.bool false, .slice none 0 0], .slice none 0 0]) (by simp [results, Try.results33, go_sem]) rfl ⟨_, _, by rw [HE.out.1], by rw [HE.out.2.1]; exact OwnI.nil _ _, by rw [HE.out.2.2]; exact OwnI.nil _ _, Apart.nil _, ((((Below.refl _ _).alloc (Nat.le_refl _) _).alloc (by simp) _).alloc (by simp; omega) _)⟩
  | true =>
    cases e1 : okB zs1 with
    | false =>
      have HE := Lib.hid (fd_no (b := b) (zs0 := zs0) (fdOk_nat e1))
      rw [e0] at K0
      rw [e1] at K1
      clear e0 e1
      obtain ⟨aa, ca, rfl, h1, h2, h3⟩ := ha
      obtain ⟨ab, cb, rfl, h4, h5, h6⟩ := hb
      clear h1 h2 h3 h4 h5 h6
      go_enter Try.func33, Try.ntmps33
      go_wp2_with fail
      refine (K0.out _ (((Below.refl _ _).alloc (Nat.le_refl _) _).alloc (by simp) _)).mono ?_
      rintro e w' ⟨rfl, rfl⟩
      go_wp2_with fail
      refine (K1.out _ ((((Below.refl _ _).alloc (Nat.le_refl _) _).alloc (by simp) _).alloc (by simp; omega) _)).mono ?_
      rintro e w' ⟨rfl, hw⟩
      subst hw
      go_wp2
      exact bodyPost_ret (v := .tuple #[.agg #[.bool false, .slice none 0 0], .slice none 0 0]) (by simp [results, Try.results33, go_sem]) rfl ⟨_, _, by rw [HE.out.1], by rw [HE.out.2.1]; exact OwnI.nil _ _, by rw [HE.out.2.2]; exact OwnI.nil _ _, Apart.nil _, ((((Below.refl _ _).alloc (Nat.le_refl _) _).alloc (by simp) _).alloc (by simp; omega) _)⟩
    | true =>
      obtain ⟨x, rfl, hx⟩ := okB_cases (bigOk_ok e0)
      obtain ⟨y, rfl, hy⟩ := okB_cases e1
      by_cases hy0 : y = 0
      · subst hy0
        have HE := Lib.hid (fd_no (b := b) (zs0 := limI x) fdOk_zero)
        have hl0 : (limI 0).length = 0 := by rw [limI_zero]; rfl
        rw [e0] at K0
        rw [e1] at K1
        clear e0 e1 hx hy
        obtain ⟨aa, ca, rfl, h1, h2, h3⟩ := ha
        obtain ⟨ab, cb, rfl, h4, h5, h6⟩ := hb
        clear h1 h2 h3 h4 h5 h6
        rw [hl0] at K1 ⊢
        clear hl0
        go_enter Try.func33, Try.ntmps33
        go_wp2_with fail
        refine (K0.out _ (((Below.refl _ _).alloc (Nat.le_refl _) _).alloc (by simp) _)).mono ?_
        rintro e w' ⟨rfl, rfl⟩
        go_wp2_with fail
        refine (K1.out _ ((((Below.refl _ _).alloc (Nat.le_refl _) _).alloc (by simp) _).alloc (by simp; omega) _)).mono ?_
        rintro e w' ⟨rfl, hw⟩
        subst hw
        go_wp2
        exact bodyPost_ret (v := .tuple #[.agg #[.bool false, .slice none 0 0], .slice none 0 0]) (by simp [results, Try.results33, go_sem]) rfl ⟨_, _, by rw [HE.out.1], by rw [HE.out.2.1]; exact OwnI.nil _ _, by rw [HE.out.2.2]; exact OwnI.nil _ _, Apart.nil _, ((((Below.refl _ _).alloc (Nat.le_refl _) _).alloc (by simp) _).alloc (by simp; omega) _)⟩
      · have HE := Lib.hid (fd_yes e0 e1 hy0)
        have HX := Lib.hid ((nlen_le_iff _ _).2 hx)
        have HY := Lib.hid ((nlen_le_iff _ _).2 hy)
        have HY0 := Lib.hid hy0
        have hly : 0 < (limI y).length := by rw [limI_length]; exact (nlen_pos_iff y).2 (Nat.pos_of_ne_zero hy0)
        rw [e0] at K0
        rw [e1] at K1
        have RA := Lib.hid ha
        have RB := Lib.hid hb
        clear e0 e1 hx hy hy0
        obtain ⟨aa, ca, rfl, h1, h2, h3⟩ := ha
        obtain ⟨ab, cb, rfl, h4, h5, h6⟩ := hb
        clear h1 h2 h3 h4 h5 h6
        generalize hnx : (limI x).length = nx at *
        generalize hny : (limI y).length = ny at *
        clear hnx hny
        have hny0 : ((ny : Int) == 0) = false := by rw [beq_eq_false_iff_ne]; omega
        rw [HE.out.1, HE.out.2.1, HE.out.2.2]
        cases b with
        | false =>
          rw [(fd_plain x y).1, (fd_plain x y).2]
          go_enter Try.func33, Try.ntmps33
          go_wp2_with fail
          refine (K0.out _ (((Below.refl _ _).alloc (Nat.le_refl _) _).alloc (by simp) _)).mono ?_
          rintro e w' ⟨rfl, rfl⟩
          go_wp2_with fail
          refine (K1.out _ ((((Below.refl _ _).alloc (Nat.le_refl _) _).alloc (by simp) _).alloc (by simp; omega) _)).mono ?_
          rintro e w' ⟨rfl, hw⟩
          subst hw
          go_wp2_with fail
          obtain ⟨W0, hW0⟩ : ∃ x, x = (((w.alloc (.cells #[.bool false, .slice aa nx ca] 27)).alloc (.cells #[.bool false, .slice none 0 0] 27)).alloc (.cells #[.bool false, .slice aa nx ca] 27)) := ⟨_, rfl⟩
          have B := Lib.hid (show Below w.heap.size w W0 by rw [hW0]; exact ((((Below.refl _ _).alloc (Nat.le_refl _) _).alloc (by simp) _).alloc (by simp; omega) _))
          have D_x := Lib.hid (bx_at (show Bx W0 _ 27 false (.slice aa nx ca) by rw [hW0]; exact ((Bx.new _ _ _ _).alloc _).alloc _) (show w.heap.size = _ by simp))
          have D_r := Lib.hid (bx_at (show Bx W0 _ 27 false (.slice none 0 0) by rw [hW0]; exact (Bx.new _ _ _ _).alloc _) (show (w.heap.size + 1) = _ by simp))
          have SZ := Lib.hid (show W0.heap.size = w.heap.size + 1 + 1 + 1 by rw [hW0]; simp)
          rw [← hW0]
          clear hW0
          refine (spec_div _ _ x y _ (rowOf_below RA.out B.out) (rowOf_below RB.out B.out) (by have := HY0.out; omega) (by have := HX.out; have := HY.out; omega) (by have := HX.out; have := HY.out; omega)).mono ?_
          rintro e w1 ⟨v_q, v_r, rfl, o_q, o_r, ap, bw1⟩
          obtain ⟨a_q, c_q, rfl⟩ := o_q.slice
          obtain ⟨a_r, c_r, rfl⟩ := o_r.slice
          have AP := Lib.hid ap
          clear ap
          replace D_x := Lib.hid (D_x.out.below bw1)
          replace D_r := Lib.hid (D_r.out.below bw1)
          have Z1 := Lib.hid bw1.size
          replace B := Lib.hid (B.out.trans (bw1.mono B.out.size))
          have O_q := Lib.hid o_q
          clear o_q
          have O_r := Lib.hid o_r
          clear o_r
          clear bw1
          have c0_x := D_x.out.c0
          have c1_x := D_x.out.c1
          go_wp2_with fail
          clear c0_x c1_x
          refine (spec_make false _ (x / y) _ _ (row_limF O_q.out.row) (Nat.le_refl _)).mono ?_
          rintro e w2 ⟨v_r0, rfl, o_r0, bw2⟩
          obtain ⟨a_r0, c_r0, rfl⟩ := o_r0.slice
          have APZ := Lib.hid (show Apart (.slice a_r0 (capL (x / y)).length c_r0) (.slice a_r (limI (x % y)).length c_r) from fun a b f1 f2 => (apart_of O_r.out o_r0 b a f2 f1).symm)
          replace O_q := Lib.hid (O_q.out.below bw2)
          replace O_r := Lib.hid (O_r.out.below bw2)
          replace D_x := Lib.hid (D_x.out.below bw2)
          replace D_r := Lib.hid (D_r.out.below bw2)
          have Z2 := Lib.hid bw2.size
          replace B := Lib.hid (B.out.trans (bw2.mono B.out.size))
          have O_r0 := Lib.hid o_r0
          clear o_r0
          clear bw2
          have c0_r := D_r.out.c0
          have c1_r := D_r.out.c1
          have f0_r := D_r.out.f0
          have f1_r := D_r.out.f1
          go_wp2
          obtain ⟨e1, e2⟩ := big_end (p := (w.heap.size + 1)) B.out O_r0.out (by have := SZ.out; have := Z1.out; have := Z2.out; omega) (by have := SZ.out; have := Z1.out; have := Z2.out; omega) (by omega) (.bool (sgB false (capL (x / y)))) (.slice a_r0 (capL (x / y)).length c_r0)
          obtain ⟨e3, _⟩ := big_end (p := (w.heap.size + 1)) B.out O_r.out (by have := SZ.out; have := Z1.out; have := Z2.out; omega) (by have := SZ.out; have := Z1.out; have := Z2.out; omega) (by omega) (.bool (sgB false (capL (x / y)))) (.slice a_r0 (capL (x / y)).length c_r0)
          have AQ : Apart (.slice a_r0 (capL (x / y)).length c_r0) (.slice a_r (limI (x % y)).length c_r) := fun a b f1 f2 => by have h1 := APZ.out a b f1 f2; exact h1
          exact bodyPost_ret (v := .tuple #[.agg #[.bool (sgB false (capL (x / y))), .slice a_r0 (capL (x / y)).length c_r0], .slice a_r (limI (x % y)).length c_r]) (by simp [results, Try.results33, go_sem, c0_r, c1_r]) rfl ⟨_, _, rfl, e1, e3, AQ, e2⟩
        | true =>
          by_cases hr : 0 < x % y
          · rw [(fd_down hr).1, (fd_down hr).2]
            have hlr : 0 < (limI (x % y)).length := by rw [limI_length]; exact (nlen_pos_iff _).2 hr
            clear hr
            go_enter Try.func33, Try.ntmps33
            go_wp2_with fail
            refine (K0.out _ (((Below.refl _ _).alloc (Nat.le_refl _) _).alloc (by simp) _)).mono ?_
            rintro e w' ⟨rfl, rfl⟩
            go_wp2_with fail
            refine (K1.out _ ((((Below.refl _ _).alloc (Nat.le_refl _) _).alloc (by simp) _).alloc (by simp; omega) _)).mono ?_
            rintro e w' ⟨rfl, hw⟩
            subst hw
            go_wp2_with fail
            obtain ⟨W0, hW0⟩ : ∃ x, x = (((w.alloc (.cells #[.bool true, .slice aa nx ca] 27)).alloc (.cells #[.bool false, .slice none 0 0] 27)).alloc (.cells #[.bool true, .slice aa nx ca] 27)) := ⟨_, rfl⟩
            have B := Lib.hid (show Below w.heap.size w W0 by rw [hW0]; exact ((((Below.refl _ _).alloc (Nat.le_refl _) _).alloc (by simp) _).alloc (by simp; omega) _))
            have D_x := Lib.hid (bx_at (show Bx W0 _ 27 true (.slice aa nx ca) by rw [hW0]; exact ((Bx.new _ _ _ _).alloc _).alloc _) (show w.heap.size = _ by simp))
            have D_r := Lib.hid (bx_at (show Bx W0 _ 27 false (.slice none 0 0) by rw [hW0]; exact (Bx.new _ _ _ _).alloc _) (show (w.heap.size + 1) = _ by simp))
            have SZ := Lib.hid (show W0.heap.size = w.heap.size + 1 + 1 + 1 by rw [hW0]; simp)
            rw [← hW0]
            clear hW0
            refine (spec_div _ _ x y _ (rowOf_below RA.out B.out) (rowOf_below RB.out B.out) (by have := HY0.out; omega) (by have := HX.out; have := HY.out; omega) (by have := HX.out; have := HY.out; omega)).mono ?_
            rintro e w1 ⟨v_q, v_r, rfl, o_q, o_r, ap, bw1⟩
            obtain ⟨a_q, c_q, rfl⟩ := o_q.slice
            obtain ⟨a_r, c_r, rfl⟩ := o_r.slice
            have AP := Lib.hid ap
            clear ap
            replace D_x := Lib.hid (D_x.out.below bw1)
            replace D_r := Lib.hid (D_r.out.below bw1)
            have Z1 := Lib.hid bw1.size
            replace B := Lib.hid (B.out.trans (bw1.mono B.out.size))
            have O_q := Lib.hid o_q
            clear o_q
            have O_r := Lib.hid o_r
            clear o_r
            clear bw1
            have c0_x := D_x.out.c0
            have c1_x := D_x.out.c1
            go_wp2_with fail
            clear c0_x c1_x
            have OL := OwnI.lit1 w1 w1.heap.size 1 (Nat.le_refl _)
            refine (spec_add _ _ (x / y) 1 _ (O_q.out.alloc _).row (row_cast1 OL.row limI_1.symm) (by have := HX.out; have := nlen_mono (Nat.div_le_self x y); omega) (by rw [nlen_le_iff]; exact Nat.lt_of_lt_of_le (show 1 < pw 1 by simp only [pw]; omega) (pw_mono (by omega)))).mono ?_
            rintro e w2 ⟨v_s, rfl, ms, o_s, hms, bw2⟩
            have HMS := Lib.hid hms
            clear hms
            obtain ⟨a_s, c_s, rfl⟩ := o_s.slice
            replace bw2 := below_lit bw2
            clear OL
            replace O_q := Lib.hid (O_q.out.below bw2)
            replace O_r := Lib.hid (O_r.out.below bw2)
            replace D_x := Lib.hid (D_x.out.below bw2)
            replace D_r := Lib.hid (D_r.out.below bw2)
            have Z2 := Lib.hid bw2.size
            replace B := Lib.hid (B.out.trans (bw2.mono B.out.size))
            have O_s := Lib.hid o_s
            clear o_s
            clear bw2
            go_wp2_with fail
            refine (spec_make true _ (x / y + 1) ms _ O_s.out.row HMS.out).mono ?_
            rintro e w3 ⟨v_r0, rfl, o_r0, bw3⟩
            obtain ⟨a_r0, c_r0, rfl⟩ := o_r0.slice
            replace O_q := Lib.hid (O_q.out.below bw3)
            replace O_r := Lib.hid (O_r.out.below bw3)
            replace O_s := Lib.hid (O_s.out.below bw3)
            replace D_x := Lib.hid (D_x.out.below bw3)
            replace D_r := Lib.hid (D_r.out.below bw3)
            have Z3 := Lib.hid bw3.size
            replace B := Lib.hid (B.out.trans (bw3.mono B.out.size))
            have O_r0 := Lib.hid o_r0
            clear o_r0
            clear bw3
            go_wp2_with fail
            refine (spec_sub _ _ y (x % y) _ (rowOf_below RB.out B.out) O_r.out.row (by have := Nat.mod_lt x (Nat.pos_of_ne_zero HY0.out); omega) (by have := HY.out; omega) (by have := HX.out; have := nlen_mono (Nat.mod_le x y); omega)).mono ?_
            rintro e w4 ⟨v_d, rfl, o_d, bw4⟩
            obtain ⟨a_d, c_d, rfl⟩ := o_d.slice
            have APZ := Lib.hid (show Apart (.slice a_r0 (capL (x / y + 1)).length c_r0) (.slice a_d (limI (y - x % y)).length c_d) from apart_of O_r0.out o_d)
            replace O_q := Lib.hid (O_q.out.below bw4)
            replace O_r := Lib.hid (O_r.out.below bw4)
            replace O_s := Lib.hid (O_s.out.below bw4)
            replace O_r0 := Lib.hid (O_r0.out.below bw4)
            replace D_x := Lib.hid (D_x.out.below bw4)
            replace D_r := Lib.hid (D_r.out.below bw4)
            have Z4 := Lib.hid bw4.size
            replace B := Lib.hid (B.out.trans (bw4.mono B.out.size))
            have O_d := Lib.hid o_d
            clear o_d
            clear bw4
            have c0_r := D_r.out.c0
            have c1_r := D_r.out.c1
            have f0_r := D_r.out.f0
            have f1_r := D_r.out.f1
            go_wp2
            obtain ⟨e1, e2⟩ := big_end (p := (w.heap.size + 1)) B.out O_r0.out (by have := SZ.out; have := Z1.out; have := Z2.out; have := Z3.out; have := Z4.out; omega) (by have := SZ.out; have := Z1.out; have := Z2.out; have := Z3.out; have := Z4.out; omega) (by omega) (.bool (sgB true (capL (x / y + 1)))) (.slice a_r0 (capL (x / y + 1)).length c_r0)
            obtain ⟨e3, _⟩ := big_end (p := (w.heap.size + 1)) B.out O_d.out (by have := SZ.out; have := Z1.out; have := Z2.out; have := Z3.out; have := Z4.out; omega) (by have := SZ.out; have := Z1.out; have := Z2.out; have := Z3.out; have := Z4.out; omega) (by omega) (.bool (sgB true (capL (x / y + 1)))) (.slice a_r0 (capL (x / y + 1)).length c_r0)
            have AQ : Apart (.slice a_r0 (capL (x / y + 1)).length c_r0) (.slice a_d (limI (y - x % y)).length c_d) := fun a b f1 f2 => by have h1 := APZ.out a b f1 f2; exact h1
            exact bodyPost_ret (v := .tuple #[.agg #[.bool (sgB true (capL (x / y + 1))), .slice a_r0 (capL (x / y + 1)).length c_r0], .slice a_d (limI (y - x % y)).length c_d]) (by simp [results, Try.results33, go_sem, c0_r, c1_r]) rfl ⟨_, _, rfl, e1, e3, AQ, e2⟩
          · have hr0 : x % y = 0 := by omega
            rw [(fd_even true hr0).1, (fd_even true hr0).2]
            have hlr : decide (0 < (limI (x % y)).length) = false := by rw [hr0, limI_zero]; rfl
            clear hr hr0
            go_enter Try.func33, Try.ntmps33
            go_wp2_with fail
            refine (K0.out _ (((Below.refl _ _).alloc (Nat.le_refl _) _).alloc (by simp) _)).mono ?_
            rintro e w' ⟨rfl, rfl⟩
            go_wp2_with fail
            refine (K1.out _ ((((Below.refl _ _).alloc (Nat.le_refl _) _).alloc (by simp) _).alloc (by simp; omega) _)).mono ?_
            rintro e w' ⟨rfl, hw⟩
            subst hw
            go_wp2_with fail
            obtain ⟨W0, hW0⟩ : ∃ x, x = (((w.alloc (.cells #[.bool true, .slice aa nx ca] 27)).alloc (.cells #[.bool false, .slice none 0 0] 27)).alloc (.cells #[.bool true, .slice aa nx ca] 27)) := ⟨_, rfl⟩
            have B := Lib.hid (show Below w.heap.size w W0 by rw [hW0]; exact ((((Below.refl _ _).alloc (Nat.le_refl _) _).alloc (by simp) _).alloc (by simp; omega) _))
            have D_x := Lib.hid (bx_at (show Bx W0 _ 27 true (.slice aa nx ca) by rw [hW0]; exact ((Bx.new _ _ _ _).alloc _).alloc _) (show w.heap.size = _ by simp))
            have D_r := Lib.hid (bx_at (show Bx W0 _ 27 false (.slice none 0 0) by rw [hW0]; exact (Bx.new _ _ _ _).alloc _) (show (w.heap.size + 1) = _ by simp))
            have SZ := Lib.hid (show W0.heap.size = w.heap.size + 1 + 1 + 1 by rw [hW0]; simp)
            rw [← hW0]
            clear hW0
            refine (spec_div _ _ x y _ (rowOf_below RA.out B.out) (rowOf_below RB.out B.out) (by have := HY0.out; omega) (by have := HX.out; have := HY.out; omega) (by have := HX.out; have := HY.out; omega)).mono ?_
            rintro e w1 ⟨v_q, v_r, rfl, o_q, o_r, ap, bw1⟩
            obtain ⟨a_q, c_q, rfl⟩ := o_q.slice
            obtain ⟨a_r, c_r, rfl⟩ := o_r.slice
            have AP := Lib.hid ap
            clear ap
            replace D_x := Lib.hid (D_x.out.below bw1)
            replace D_r := Lib.hid (D_r.out.below bw1)
            have Z1 := Lib.hid bw1.size
            replace B := Lib.hid (B.out.trans (bw1.mono B.out.size))
            have O_q := Lib.hid o_q
            clear o_q
            have O_r := Lib.hid o_r
            clear o_r
            clear bw1
            have c0_x := D_x.out.c0
            have c1_x := D_x.out.c1
            go_wp2_with fail
            clear c0_x c1_x
            refine (spec_make true _ (x / y) _ _ (row_limF O_q.out.row) (Nat.le_refl _)).mono ?_
            rintro e w2 ⟨v_r0, rfl, o_r0, bw2⟩
            obtain ⟨a_r0, c_r0, rfl⟩ := o_r0.slice
            have APZ := Lib.hid (show Apart (.slice a_r0 (capL (x / y)).length c_r0) (.slice a_r (limI (x % y)).length c_r) from fun a b f1 f2 => (apart_of O_r.out o_r0 b a f2 f1).symm)
            replace O_q := Lib.hid (O_q.out.below bw2)
            replace O_r := Lib.hid (O_r.out.below bw2)
            replace D_x := Lib.hid (D_x.out.below bw2)
            replace D_r := Lib.hid (D_r.out.below bw2)
            have Z2 := Lib.hid bw2.size
            replace B := Lib.hid (B.out.trans (bw2.mono B.out.size))
            have O_r0 := Lib.hid o_r0
            clear o_r0
            clear bw2
            have c0_r := D_r.out.c0
            have c1_r := D_r.out.c1
            have f0_r := D_r.out.f0
            have f1_r := D_r.out.f1
            go_wp2
            obtain ⟨e1, e2⟩ := big_end (p := (w.heap.size + 1)) B.out O_r0.out (by have := SZ.out; have := Z1.out; have := Z2.out; omega) (by have := SZ.out; have := Z1.out; have := Z2.out; omega) (by omega) (.bool (sgB true (capL (x / y)))) (.slice a_r0 (capL (x / y)).length c_r0)
            obtain ⟨e3, _⟩ := big_end (p := (w.heap.size + 1)) B.out O_r.out (by have := SZ.out; have := Z1.out; have := Z2.out; omega) (by have := SZ.out; have := Z1.out; have := Z2.out; omega) (by omega) (.bool (sgB true (capL (x / y)))) (.slice a_r0 (capL (x / y)).length c_r0)
            have AQ : Apart (.slice a_r0 (capL (x / y)).length c_r0) (.slice a_r (limI (x % y)).length c_r) := fun a b f1 f2 => by have h1 := APZ.out a b f1 f2; exact h1
            exact bodyPost_ret (v := .tuple #[.agg #[.bool (sgB true (capL (x / y))), .slice a_r0 (capL (x / y)).length c_r0], .slice a_r (limI (x % y)).length c_r]) (by simp [results, Try.results33, go_sem, c0_r, c1_r]) rfl ⟨_, _, rfl, e1, e3, AQ, e2⟩

set_option maxHeartbeats 2000000 in
theorem impl_bigFloorDiv (b : Bool) (va : Value) (zs0 : List Int) (vb : Value) (zs1 : List Int) (w : World) (ha : RowOf iV w va zs0) (hb : RowOf iV w vb zs1) :
    Calls Try.prog 35 #[.agg #[.bool b, va], vb] w fun e w' => ∃ v0 v1, e = .returned (.tuple #[.agg #[.bool (fdQB b zs0 zs1), v0], v1]) ∧ OwnI w' w.heap.size v0 (fdQL b zs0 zs1) ∧ OwnI w' w.heap.size v1 (fdRL b zs0 zs1) ∧ Apart v0 v1 ∧ Below w.heap.size w w' := by
  have K0 := Lib.hid (fun W (hW : Below w.heap.size w W) => impl_bigOk b va zs0 W (rowOf_below ha hW))
  have K1 := Lib.hid (fun W (hW : Below w.heap.size w W) => impl_natOk vb zs1 W (rowOf_below hb hW))
  cases e0 : bigOk b zs0 with
  | false =>
    have HE := Lib.hid (fd_no (zs1 := zs1) (fdOk_big e0))
    rw [e0] at K0
    clear e0
    obtain ⟨aa, ca, rfl, h1, h2, h3⟩ := ha
    obtain ⟨ab, cb, rfl, h4, h5, h6⟩ := hb
    clear h1 h2 h3 h4 h5 h6
    go_enter Try.func35, Try.ntmps35
    go_wp2_with fail
    refine (K0.out _ (((Below.refl _ _).alloc (Nat.le_refl _) _).alloc (by simp) _)).mono ?_
    rintro e w' ⟨rfl, rfl⟩
    go_wp2
    exact bodyPost_ret (v := .tuple #[.agg #[.bool false, .slice none 0 0], .slice none 0 0]) (by simp [results, Try.results35, go_sem]) rfl ⟨_, _, by rw [HE.out.1], by rw [HE.out.2.1]; exact OwnI.nil _ _, by rw [HE.out.2.2]; exact OwnI.nil _ _, Apart.nil _, ((((Below.refl _ _).alloc (Nat.le_refl _) _).alloc (by simp) _).alloc (by simp; omega) _)⟩
  | true =>
    cases e1 : okB zs1 with
    | false =>
      have HE := Lib.hid (fd_no (b := b) (zs0 := zs0) (fdOk_nat e1))
      rw [e0] at K0
      rw [e1] at K1
      clear e0 e1
      obtain ⟨aa, ca, rfl, h1, h2, h3⟩ := ha
      obtain ⟨ab, cb, rfl, h4, h5, h6⟩ := hb
      clear h1 h2 h3 h4 h5 h6
      go_enter Try.func35, Try.ntmps35
      go_wp2_with fail
      refine (K0.out _ (((Below.refl _ _).alloc (Nat.le_refl _) _).alloc (by simp) _)).mono ?_
      rintro e w' ⟨rfl, rfl⟩
      go_wp2_with fail
      refine (K1.out _ ((((Below.refl _ _).alloc (Nat.le_refl _) _).alloc (by simp) _).alloc (by simp; omega) _)).mono ?_
      rintro e w' ⟨rfl, hw⟩
      subst hw
      go_wp2
      exact bodyPost_ret (v := .tuple #[.agg #[.bool false, .slice none 0 0], .slice none 0 0]) (by simp [results, Try.results35, go_sem]) rfl ⟨_, _, by rw [HE.out.1], by rw [HE.out.2.1]; exact OwnI.nil _ _, by rw [HE.out.2.2]; exact OwnI.nil _ _, Apart.nil _, ((((Below.refl _ _).alloc (Nat.le_refl _) _).alloc (by simp) _).alloc (by simp; omega) _)⟩
    | true =>
      obtain ⟨x, rfl, hx⟩ := okB_cases (bigOk_ok e0)
      obtain ⟨y, rfl, hy⟩ := okB_cases e1
      by_cases hy0 : y = 0
      · subst hy0
        have HE := Lib.hid (fd_no (b := b) (zs0 := limI x) fdOk_zero)
        have hl0 : (limI 0).length = 0 := by rw [limI_zero]; rfl
        rw [e0] at K0
        rw [e1] at K1
        clear e0 e1 hx hy
        obtain ⟨aa, ca, rfl, h1, h2, h3⟩ := ha
        obtain ⟨ab, cb, rfl, h4, h5, h6⟩ := hb
        clear h1 h2 h3 h4 h5 h6
        rw [hl0] at K1 ⊢
        clear hl0
        go_enter Try.func35, Try.ntmps35
        go_wp2_with fail
        refine (K0.out _ (((Below.refl _ _).alloc (Nat.le_refl _) _).alloc (by simp) _)).mono ?_
        rintro e w' ⟨rfl, rfl⟩
        go_wp2_with fail
        refine (K1.out _ ((((Below.refl _ _).alloc (Nat.le_refl _) _).alloc (by simp) _).alloc (by simp; omega) _)).mono ?_
        rintro e w' ⟨rfl, hw⟩
        subst hw
        go_wp2
        exact bodyPost_ret (v := .tuple #[.agg #[.bool false, .slice none 0 0], .slice none 0 0]) (by simp [results, Try.results35, go_sem]) rfl ⟨_, _, by rw [HE.out.1], by rw [HE.out.2.1]; exact OwnI.nil _ _, by rw [HE.out.2.2]; exact OwnI.nil _ _, Apart.nil _, ((((Below.refl _ _).alloc (Nat.le_refl _) _).alloc (by simp) _).alloc (by simp; omega) _)⟩
      · have HE := Lib.hid (fd_yes e0 e1 hy0)
        have HX := Lib.hid ((nlen_le_iff _ _).2 hx)
        have HY := Lib.hid ((nlen_le_iff _ _).2 hy)
        have HY0 := Lib.hid hy0
        have hly : 0 < (limI y).length := by rw [limI_length]; exact (nlen_pos_iff y).2 (Nat.pos_of_ne_zero hy0)
        rw [e0] at K0
        rw [e1] at K1
        have RA := Lib.hid ha
        have RB := Lib.hid hb
        clear e0 e1 hx hy hy0
        obtain ⟨aa, ca, rfl, h1, h2, h3⟩ := ha
        obtain ⟨ab, cb, rfl, h4, h5, h6⟩ := hb
        clear h1 h2 h3 h4 h5 h6
        generalize hnx : (limI x).length = nx at *
        generalize hny : (limI y).length = ny at *
        clear hnx hny
        have hny0 : ((ny : Int) == 0) = false := by rw [beq_eq_false_iff_ne]; omega
        rw [HE.out.1, HE.out.2.1, HE.out.2.2]
        cases b with
        | false =>
          rw [(fd_plain x y).1, (fd_plain x y).2]
          go_enter Try.func35, Try.ntmps35
          go_wp2_with fail
          refine (K0.out _ (((Below.refl _ _).alloc (Nat.le_refl _) _).alloc (by simp) _)).mono ?_
          rintro e w' ⟨rfl, rfl⟩
          go_wp2_with fail
          refine (K1.out _ ((((Below.refl _ _).alloc (Nat.le_refl _) _).alloc (by simp) _).alloc (by simp; omega) _)).mono ?_
          rintro e w' ⟨rfl, hw⟩
          subst hw
          go_wp2_with fail
          obtain ⟨W0, hW0⟩ : ∃ x, x = (((w.alloc (.cells #[.bool false, .slice aa nx ca] 27)).alloc (.cells #[.bool false, .slice none 0 0] 27)).alloc (.cells #[.bool false, .slice aa nx ca] 27)) := ⟨_, rfl⟩
          have B := Lib.hid (show Below w.heap.size w W0 by rw [hW0]; exact ((((Below.refl _ _).alloc (Nat.le_refl _) _).alloc (by simp) _).alloc (by simp; omega) _))
          have D_x := Lib.hid (bx_at (show Bx W0 _ 27 false (.slice aa nx ca) by rw [hW0]; exact ((Bx.new _ _ _ _).alloc _).alloc _) (show w.heap.size = _ by simp))
          have D_r := Lib.hid (bx_at (show Bx W0 _ 27 false (.slice none 0 0) by rw [hW0]; exact (Bx.new _ _ _ _).alloc _) (show (w.heap.size + 1) = _ by simp))
          have SZ := Lib.hid (show W0.heap.size = w.heap.size + 1 + 1 + 1 by rw [hW0]; simp)
          rw [← hW0]
          clear hW0
          refine (impl_divide _ _ x y _ (rowOf_below RA.out B.out) (rowOf_below RB.out B.out) (by have := HY0.out; omega) (by have := HX.out; have := HY.out; omega) (by have := HX.out; have := HY.out; omega)).mono ?_
          rintro e w1 ⟨v_q, v_r, rfl, o_q, o_r, ap, bw1⟩
          obtain ⟨a_q, c_q, rfl⟩ := o_q.slice
          obtain ⟨a_r, c_r, rfl⟩ := o_r.slice
          have AP := Lib.hid ap
          clear ap
          replace D_x := Lib.hid (D_x.out.below bw1)
          replace D_r := Lib.hid (D_r.out.below bw1)
          have Z1 := Lib.hid bw1.size
          replace B := Lib.hid (B.out.trans (bw1.mono B.out.size))
          have O_q := Lib.hid o_q
          clear o_q
          have O_r := Lib.hid o_r
          clear o_r
          clear bw1
          have c0_x := D_x.out.c0
          have c1_x := D_x.out.c1
          go_wp2_with fail
          clear c0_x c1_x
          refine (impl_withSign false _ (x / y) _ O_q.out.row).mono ?_
          rintro e w2 ⟨v_r0, rfl, o_r0, bw2⟩
          obtain ⟨a_r0, c_r0, rfl⟩ := o_r0.slice
          have APZ := Lib.hid (show Apart (.slice a_r0 (capL (x / y)).length c_r0) (.slice a_r (limI (x % y)).length c_r) from fun a b f1 f2 => (apart_of O_r.out o_r0 b a f2 f1).symm)
          replace O_q := Lib.hid (O_q.out.below bw2)
          replace O_r := Lib.hid (O_r.out.below bw2)
          replace D_x := Lib.hid (D_x.out.below bw2)
          replace D_r := Lib.hid (D_r.out.below bw2)
          have Z2 := Lib.hid bw2.size
          replace B := Lib.hid (B.out.trans (bw2.mono B.out.size))
          have O_r0 := Lib.hid o_r0
          clear o_r0
          clear bw2
          have c0_r := D_r.out.c0
          have c1_r := D_r.out.c1
          have f0_r := D_r.out.f0
          have f1_r := D_r.out.f1
          go_wp2
          obtain ⟨e1, e2⟩ := big_end (p := (w.heap.size + 1)) B.out O_r0.out (by have := SZ.out; have := Z1.out; have := Z2.out; omega) (by have := SZ.out; have := Z1.out; have := Z2.out; omega) (by omega) (.bool (sgB false (capL (x / y)))) (.slice a_r0 (capL (x / y)).length c_r0)
          obtain ⟨e3, _⟩ := big_end (p := (w.heap.size + 1)) B.out O_r.out (by have := SZ.out; have := Z1.out; have := Z2.out; omega) (by have := SZ.out; have := Z1.out; have := Z2.out; omega) (by omega) (.bool (sgB false (capL (x / y)))) (.slice a_r0 (capL (x / y)).length c_r0)
          have AQ : Apart (.slice a_r0 (capL (x / y)).length c_r0) (.slice a_r (limI (x % y)).length c_r) := fun a b f1 f2 => by have h1 := APZ.out a b f1 f2; exact h1
          exact bodyPost_ret (v := .tuple #[.agg #[.bool (sgB false (capL (x / y))), .slice a_r0 (capL (x / y)).length c_r0], .slice a_r (limI (x % y)).length c_r]) (by simp [results, Try.results35, go_sem, c0_r, c1_r]) rfl ⟨_, _, rfl, e1, e3, AQ, e2⟩
        | true =>
          by_cases hr : 0 < x % y
          · rw [(fd_down hr).1, (fd_down hr).2]
            have hlr : 0 < (limI (x % y)).length := by rw [limI_length]; exact (nlen_pos_iff _).2 hr
            clear hr
            go_enter Try.func35, Try.ntmps35
            go_wp2_with fail
            refine (K0.out _ (((Below.refl _ _).alloc (Nat.le_refl _) _).alloc (by simp) _)).mono ?_
            rintro e w' ⟨rfl, rfl⟩
            go_wp2_with fail
            refine (K1.out _ ((((Below.refl _ _).alloc (Nat.le_refl _) _).alloc (by simp) _).alloc (by simp; omega) _)).mono ?_
            rintro e w' ⟨rfl, hw⟩
            subst hw
            go_wp2_with fail
            obtain ⟨W0, hW0⟩ : ∃ x, x = (((w.alloc (.cells #[.bool true, .slice aa nx ca] 27)).alloc (.cells #[.bool false, .slice none 0 0] 27)).alloc (.cells #[.bool true, .slice aa nx ca] 27)) := ⟨_, rfl⟩
            have B := Lib.hid (show Below w.heap.size w W0 by rw [hW0]; exact ((((Below.refl _ _).alloc (Nat.le_refl _) _).alloc (by simp) _).alloc (by simp; omega) _))
            have D_x := Lib.hid (bx_at (show Bx W0 _ 27 true (.slice aa nx ca) by rw [hW0]; exact ((Bx.new _ _ _ _).alloc _).alloc _) (show w.heap.size = _ by simp))
            have D_r := Lib.hid (bx_at (show Bx W0 _ 27 false (.slice none 0 0) by rw [hW0]; exact (Bx.new _ _ _ _).alloc _) (show (w.heap.size + 1) = _ by simp))
            have SZ := Lib.hid (show W0.heap.size = w.heap.size + 1 + 1 + 1 by rw [hW0]; simp)
            rw [← hW0]
            clear hW0
            refine (impl_divide _ _ x y _ (rowOf_below RA.out B.out) (rowOf_below RB.out B.out) (by have := HY0.out; omega) (by have := HX.out; have := HY.out; omega) (by have := HX.out; have := HY.out; omega)).mono ?_
            rintro e w1 ⟨v_q, v_r, rfl, o_q, o_r, ap, bw1⟩
            obtain ⟨a_q, c_q, rfl⟩ := o_q.slice
            obtain ⟨a_r, c_r, rfl⟩ := o_r.slice
            have AP := Lib.hid ap
            clear ap
            replace D_x := Lib.hid (D_x.out.below bw1)
            replace D_r := Lib.hid (D_r.out.below bw1)
            have Z1 := Lib.hid bw1.size
            replace B := Lib.hid (B.out.trans (bw1.mono B.out.size))
            have O_q := Lib.hid o_q
            clear o_q
            have O_r := Lib.hid o_r
            clear o_r
            clear bw1
            have c0_x := D_x.out.c0
            have c1_x := D_x.out.c1
            go_wp2_with fail
            clear c0_x c1_x
            have OL := OwnI.lit1 w1 w1.heap.size 1 (Nat.le_refl _)
            refine (impl_plus _ _ (x / y) 1 _ (O_q.out.alloc _).row (row_cast1 OL.row limI_1.symm) (by have := HX.out; have := nlen_mono (Nat.div_le_self x y); omega) (by rw [nlen_le_iff]; exact Nat.lt_of_lt_of_le (show 1 < pw 1 by simp only [pw]; omega) (pw_mono (by omega)))).mono ?_
            rintro e w2 ⟨v_s, rfl, o_s, bw2⟩
            obtain ⟨a_s, c_s, rfl⟩ := o_s.slice
            replace bw2 := below_lit bw2
            clear OL
            replace O_q := Lib.hid (O_q.out.below bw2)
            replace O_r := Lib.hid (O_r.out.below bw2)
            replace D_x := Lib.hid (D_x.out.below bw2)
            replace D_r := Lib.hid (D_r.out.below bw2)
            have Z2 := Lib.hid bw2.size
            replace B := Lib.hid (B.out.trans (bw2.mono B.out.size))
            have O_s := Lib.hid o_s
            clear o_s
            clear bw2
            go_wp2_with fail
            refine (impl_minus _ _ y (x % y) _ (rowOf_below RB.out B.out) O_r.out.row (by have := Nat.mod_lt x (Nat.pos_of_ne_zero HY0.out); omega) (by have := HY.out; omega) (by have := HX.out; have := nlen_mono (Nat.mod_le x y); omega)).mono ?_
            rintro e w3 ⟨v_d, rfl, o_d, bw3⟩
            obtain ⟨a_d, c_d, rfl⟩ := o_d.slice
            replace O_q := Lib.hid (O_q.out.below bw3)
            replace O_r := Lib.hid (O_r.out.below bw3)
            replace O_s := Lib.hid (O_s.out.below bw3)
            replace D_x := Lib.hid (D_x.out.below bw3)
            replace D_r := Lib.hid (D_r.out.below bw3)
            have Z3 := Lib.hid bw3.size
            replace B := Lib.hid (B.out.trans (bw3.mono B.out.size))
            have O_d := Lib.hid o_d
            clear o_d
            clear bw3
            have c0_x := D_x.out.c0
            have c1_x := D_x.out.c1
            go_wp2_with fail
            clear c0_x c1_x
            refine (impl_withSign true _ (x / y + 1) _ O_s.out.row).mono ?_
            rintro e w4 ⟨v_r0, rfl, o_r0, bw4⟩
            obtain ⟨a_r0, c_r0, rfl⟩ := o_r0.slice
            have APZ := Lib.hid (show Apart (.slice a_r0 (capL (x / y + 1)).length c_r0) (.slice a_d (limI (y - x % y)).length c_d) from fun a b f1 f2 => (apart_of O_d.out o_r0 b a f2 f1).symm)
            replace O_q := Lib.hid (O_q.out.below bw4)
            replace O_r := Lib.hid (O_r.out.below bw4)
            replace O_s := Lib.hid (O_s.out.below bw4)
            replace O_d := Lib.hid (O_d.out.below bw4)
            replace D_x := Lib.hid (D_x.out.below bw4)
            replace D_r := Lib.hid (D_r.out.below bw4)
            have Z4 := Lib.hid bw4.size
            replace B := Lib.hid (B.out.trans (bw4.mono B.out.size))
            have O_r0 := Lib.hid o_r0
            clear o_r0
            clear bw4
            have c0_r := D_r.out.c0
            have c1_r := D_r.out.c1
            have f0_r := D_r.out.f0
            have f1_r := D_r.out.f1
            go_wp2
            obtain ⟨e1, e2⟩ := big_end (p := (w.heap.size + 1)) B.out O_r0.out (by have := SZ.out; have := Z1.out; have := Z2.out; have := Z3.out; have := Z4.out; omega) (by have := SZ.out; have := Z1.out; have := Z2.out; have := Z3.out; have := Z4.out; omega) (by omega) (.bool (sgB true (capL (x / y + 1)))) (.slice a_r0 (capL (x / y + 1)).length c_r0)
            obtain ⟨e3, _⟩ := big_end (p := (w.heap.size + 1)) B.out O_d.out (by have := SZ.out; have := Z1.out; have := Z2.out; have := Z3.out; have := Z4.out; omega) (by have := SZ.out; have := Z1.out; have := Z2.out; have := Z3.out; have := Z4.out; omega) (by omega) (.bool (sgB true (capL (x / y + 1)))) (.slice a_r0 (capL (x / y + 1)).length c_r0)
            have AQ : Apart (.slice a_r0 (capL (x / y + 1)).length c_r0) (.slice a_d (limI (y - x % y)).length c_d) := fun a b f1 f2 => by have h1 := APZ.out a b f1 f2; exact h1
            exact bodyPost_ret (v := .tuple #[.agg #[.bool (sgB true (capL (x / y + 1))), .slice a_r0 (capL (x / y + 1)).length c_r0], .slice a_d (limI (y - x % y)).length c_d]) (by simp [results, Try.results35, go_sem, c0_r, c1_r]) rfl ⟨_, _, rfl, e1, e3, AQ, e2⟩
          · have hr0 : x % y = 0 := by omega
            rw [(fd_even true hr0).1, (fd_even true hr0).2]
            have hlr : decide (0 < (limI (x % y)).length) = false := by rw [hr0, limI_zero]; rfl
            clear hr hr0
            go_enter Try.func35, Try.ntmps35
            go_wp2_with fail
            refine (K0.out _ (((Below.refl _ _).alloc (Nat.le_refl _) _).alloc (by simp) _)).mono ?_
            rintro e w' ⟨rfl, rfl⟩
            go_wp2_with fail
            refine (K1.out _ ((((Below.refl _ _).alloc (Nat.le_refl _) _).alloc (by simp) _).alloc (by simp; omega) _)).mono ?_
            rintro e w' ⟨rfl, hw⟩
            subst hw
            go_wp2_with fail
            obtain ⟨W0, hW0⟩ : ∃ x, x = (((w.alloc (.cells #[.bool true, .slice aa nx ca] 27)).alloc (.cells #[.bool false, .slice none 0 0] 27)).alloc (.cells #[.bool true, .slice aa nx ca] 27)) := ⟨_, rfl⟩
            have B := Lib.hid (show Below w.heap.size w W0 by rw [hW0]; exact ((((Below.refl _ _).alloc (Nat.le_refl _) _).alloc (by simp) _).alloc (by simp; omega) _))
            have D_x := Lib.hid (bx_at (show Bx W0 _ 27 true (.slice aa nx ca) by rw [hW0]; exact ((Bx.new _ _ _ _).alloc _).alloc _) (show w.heap.size = _ by simp))
            have D_r := Lib.hid (bx_at (show Bx W0 _ 27 false (.slice none 0 0) by rw [hW0]; exact (Bx.new _ _ _ _).alloc _) (show (w.heap.size + 1) = _ by simp))
            have SZ := Lib.hid (show W0.heap.size = w.heap.size + 1 + 1 + 1 by rw [hW0]; simp)
            rw [← hW0]
            clear hW0
            refine (impl_divide _ _ x y _ (rowOf_below RA.out B.out) (rowOf_below RB.out B.out) (by have := HY0.out; omega) (by have := HX.out; have := HY.out; omega) (by have := HX.out; have := HY.out; omega)).mono ?_
            rintro e w1 ⟨v_q, v_r, rfl, o_q, o_r, ap, bw1⟩
            obtain ⟨a_q, c_q, rfl⟩ := o_q.slice
            obtain ⟨a_r, c_r, rfl⟩ := o_r.slice
            have AP := Lib.hid ap
            clear ap
            replace D_x := Lib.hid (D_x.out.below bw1)
            replace D_r := Lib.hid (D_r.out.below bw1)
            have Z1 := Lib.hid bw1.size
            replace B := Lib.hid (B.out.trans (bw1.mono B.out.size))
            have O_q := Lib.hid o_q
            clear o_q
            have O_r := Lib.hid o_r
            clear o_r
            clear bw1
            have c0_x := D_x.out.c0
            have c1_x := D_x.out.c1
            go_wp2_with fail
            clear c0_x c1_x
            refine (impl_withSign true _ (x / y) _ O_q.out.row).mono ?_
            rintro e w2 ⟨v_r0, rfl, o_r0, bw2⟩
            obtain ⟨a_r0, c_r0, rfl⟩ := o_r0.slice
            have APZ := Lib.hid (show Apart (.slice a_r0 (capL (x / y)).length c_r0) (.slice a_r (limI (x % y)).length c_r) from fun a b f1 f2 => (apart_of O_r.out o_r0 b a f2 f1).symm)
            replace O_q := Lib.hid (O_q.out.below bw2)
            replace O_r := Lib.hid (O_r.out.below bw2)
            replace D_x := Lib.hid (D_x.out.below bw2)
            replace D_r := Lib.hid (D_r.out.below bw2)
            have Z2 := Lib.hid bw2.size
            replace B := Lib.hid (B.out.trans (bw2.mono B.out.size))
            have O_r0 := Lib.hid o_r0
            clear o_r0
            clear bw2
            have c0_r := D_r.out.c0
            have c1_r := D_r.out.c1
            have f0_r := D_r.out.f0
            have f1_r := D_r.out.f1
            go_wp2
            obtain ⟨e1, e2⟩ := big_end (p := (w.heap.size + 1)) B.out O_r0.out (by have := SZ.out; have := Z1.out; have := Z2.out; omega) (by have := SZ.out; have := Z1.out; have := Z2.out; omega) (by omega) (.bool (sgB true (capL (x / y)))) (.slice a_r0 (capL (x / y)).length c_r0)
            obtain ⟨e3, _⟩ := big_end (p := (w.heap.size + 1)) B.out O_r.out (by have := SZ.out; have := Z1.out; have := Z2.out; omega) (by have := SZ.out; have := Z1.out; have := Z2.out; omega) (by omega) (.bool (sgB true (capL (x / y)))) (.slice a_r0 (capL (x / y)).length c_r0)
            have AQ : Apart (.slice a_r0 (capL (x / y)).length c_r0) (.slice a_r (limI (x % y)).length c_r) := fun a b f1 f2 => by have h1 := APZ.out a b f1 f2; exact h1
            exact bodyPost_ret (v := .tuple #[.agg #[.bool (sgB true (capL (x / y))), .slice a_r0 (capL (x / y)).length c_r0], .slice a_r (limI (x % y)).length c_r]) (by simp [results, Try.results35, go_sem, c0_r, c1_r]) rfl ⟨_, _, rfl, e1, e3, AQ, e2⟩

set_option maxHeartbeats 4000000 in
theorem law_bigIntFloorDiv (W : World) (ng0 : Bool) (v0 : Value) (zs0 : List Int) (h0 : RowOf iV W v0 zs0) (_ : True) (v1 : Value) (zs1 : List Int) (h1 : RowOf iV W v1 zs1) (_ : True) :
    Calls Try.prog 11 #[.agg #[.bool ng0, v0], v1] W fun e w' => e = .returned (.bool true) ∧ Below W.heap.size W w' := by
  have R0 := Lib.hid h0
  obtain ⟨a0, c0, rfl, hc0, hm0, hr0⟩ := h0
  clear hr0
  unfold maxLen at hm0
  obtain ⟨m0, hm0'⟩ : ∃ n, zs0.length = n := ⟨_, rfl⟩
  rw [hm0'] at hc0 R0 ⊢
  have N0 := Lib.hid hm0'
  clear hm0'
  have R1 := Lib.hid h1
  obtain ⟨a1, c1, rfl, hc1, hm1, hr1⟩ := h1
  clear hr1
  unfold maxLen at hm1
  obtain ⟨m1, hm1'⟩ : ∃ n, zs1.length = n := ⟨_, rfl⟩
  rw [hm1'] at hc1 R1 ⊢
  have N1 := Lib.hid hm1'
  clear hm1'
  by_cases hl1 : m1 ≤ 1048576
  rotate_left
  · go_enter Try.func11, Try.ntmps11
    go_wp2
    go_ret
    exact ⟨rfl, by first | exact Below.refl _ _ | exact (Below.refl _ _).alloc (Nat.le_refl _) _ | exact ((Below.refl _ _).alloc (Nat.le_refl _) _).alloc (by simp) _⟩
  by_cases hl0 : m0 ≤ 1048576
  rotate_left
  · go_enter Try.func11, Try.ntmps11
    go_wp2_with fail
    obtain ⟨W0, hW0⟩ : ∃ x, x = (W.alloc (.cells #[.bool ng0, .slice a0 m0 c0] 24)) := ⟨_, rfl⟩
    have B := Lib.hid (show Below W.heap.size W W0 by rw [hW0]; exact (Below.refl W.heap.size W).alloc (Nat.le_refl _) (.cells #[.bool ng0, .slice a0 m0 c0] 24))
    have D_a0 := Lib.hid (bx_at (show Bx W0 _ 24 ng0 (.slice a0 m0 c0) by rw [hW0]; exact Bx.new _ _ _ _) (show W.heap.size = _ by simp))
    rw [← hW0]
    clear hW0
    refine (sz_big_no ng0 a0 m0 c0 (1048576) _ (by omega) (by omega)).mono ?_
    rintro e w0' ⟨rfl, bz0⟩
    replace B := Lib.hid (B.out.trans (bz0.mono B.out.size))
    clear bz0
    go_wp2
    go_ret
    exact ⟨rfl, B.out⟩
  go_enter Try.func11, Try.ntmps11
  go_wp2_with fail
  obtain ⟨W0, hW0⟩ : ∃ x, x = (W.alloc (.cells #[.bool ng0, .slice a0 m0 c0] 24)) := ⟨_, rfl⟩
  have B := Lib.hid (show Below W.heap.size W W0 by rw [hW0]; exact (Below.refl W.heap.size W).alloc (Nat.le_refl _) (.cells #[.bool ng0, .slice a0 m0 c0] 24))
  have D_a0 := Lib.hid (bx_at (show Bx W0 _ 24 ng0 (.slice a0 m0 c0) by rw [hW0]; exact Bx.new _ _ _ _) (show W.heap.size = _ by simp))
  rw [← hW0]
  clear hW0
  have z0 := Lib.hid (show W.heap.size ≤ W0.heap.size from B.out.size)
  refine (sz_big_yes ng0 a0 m0 c0 (1048576) _ (by omega) (by omega)).mono ?_
  rintro e w1 ⟨rfl, b1⟩
  have z1 := Lib.hid b1.size
  replace D_a0 := Lib.hid (D_a0.out.below b1)
  replace B := Lib.hid (B.out.trans (b1.mono B.out.size))
  clear b1
  have c0_a0 := D_a0.out.c0
  have c1_a0 := D_a0.out.c1
  go_wp2_with fail
  clear c0_a0 c1_a0
  refine (to_bigs _ zs0 _ (rowOf_below R0.out B.out) (by rw [N0.out]; omega)).mono ?_
  rintro e w2 ⟨v_t1, rfl, o_t1, b2⟩
  obtain ⟨a_t1, c_t1, rfl⟩ := o_t1.slice
  have z2 := Lib.hid b2.size
  replace D_a0 := Lib.hid (D_a0.out.below b2)
  replace B := Lib.hid (B.out.trans (b2.mono B.out.size))
  have O_t1 := Lib.hid o_t1
  have L_t1 := Lib.hid o_t1.lt
  clear o_t1
  clear b2
  go_wp2_with fail
  refine (to_ints _ zs1 _ (rowOf_below R1.out B.out) (by rw [N1.out]; omega)).mono ?_
  rintro e w3 ⟨v_t2, rfl, o_t2, b3⟩
  obtain ⟨a_t2, c_t2, rfl⟩ := o_t2.slice
  have z3 := Lib.hid b3.size
  replace O_t1 := Lib.hid (O_t1.out.below b3)
  replace D_a0 := Lib.hid (D_a0.out.below b3)
  replace B := Lib.hid (B.out.trans (b3.mono B.out.size))
  have O_t2 := Lib.hid o_t2
  have L_t2 := Lib.hid o_t2.lt
  clear o_t2
  clear b3
  go_wp2_with fail
  refine (spec_bigFloorDiv ng0 _ zs0 _ zs1 _  O_t1.out.row O_t2.out.row).mono ?_
  rintro e w4 ⟨v_w_0, v_w_1, rfl, o_w_0, o_w_1, ap_w_, b4⟩
  obtain ⟨a_w_0, c_w_0, rfl⟩ := o_w_0.slice
  obtain ⟨a_w_1, c_w_1, rfl⟩ := o_w_1.slice
  have z4 := Lib.hid b4.size
  replace O_t1 := Lib.hid (O_t1.out.below b4)
  replace O_t2 := Lib.hid (O_t2.out.below b4)
  replace D_a0 := Lib.hid (D_a0.out.below b4)
  replace B := Lib.hid (B.out.trans (b4.mono B.out.size))
  have O_w_0 := Lib.hid o_w_0
  have L_w_0 := Lib.hid o_w_0.lt
  clear o_w_0
  have O_w_1 := Lib.hid o_w_1
  have L_w_1 := Lib.hid o_w_1.lt
  clear o_w_1
  clear b4
  have AP_w_ := Lib.hid ap_w_
  clear ap_w_
  clear O_t1 L_t1
  clear O_t2 L_t2
  have c0_a0 := D_a0.out.c0
  have c1_a0 := D_a0.out.c1
  have hz := B.out.size
  have lt_a0 := D_a0.out.lt
  go_wp2_with fail
  clear c0_a0 c1_a0
  clear hz
  clear lt_a0
  obtain ⟨w5, hW0⟩ : ∃ x, x = w4.alloc (.cells #[.bool (fdQB ng0 zs0 zs1), .slice a_w_0 (fdQL ng0 zs0 zs1).length c_w_0] 27) := ⟨_, rfl⟩
  replace O_w_0 := Lib.hid (show OwnI w5 _ _ _ by rw [hW0]; exact O_w_0.out.alloc _)
  replace O_w_1 := Lib.hid (show OwnI w5 _ _ _ by rw [hW0]; exact O_w_1.out.alloc _)
  replace D_a0 := Lib.hid (show Bx w5 _ _ _ _ by rw [hW0]; exact D_a0.out.alloc _)
  have D_w_0 := Lib.hid (show Bx w5 w4.heap.size 27 (fdQB ng0 zs0 zs1) (.slice a_w_0 (fdQL ng0 zs0 zs1).length c_w_0) by rw [hW0]; exact Bx.new _ _ _ _)
  replace B := Lib.hid (show Below W.heap.size W w5 by rw [hW0]; exact B.out.alloc B.out.size _)
  have z5 := Lib.hid (show w4.heap.size ≤ w5.heap.size by rw [hW0]; simp)
  rw [← hW0]
  clear hW0
  refine (to_bigs _ zs0 _ (rowOf_below R0.out B.out) (by rw [N0.out]; omega)).mono ?_
  rintro e w6 ⟨v_t3, rfl, o_t3, b6⟩
  obtain ⟨a_t3, c_t3, rfl⟩ := o_t3.slice
  have z6 := Lib.hid b6.size
  replace O_w_0 := Lib.hid (O_w_0.out.below b6)
  replace O_w_1 := Lib.hid (O_w_1.out.below b6)
  replace D_a0 := Lib.hid (D_a0.out.below b6)
  replace D_w_0 := Lib.hid (D_w_0.out.below b6)
  replace B := Lib.hid (B.out.trans (b6.mono B.out.size))
  have O_t3 := Lib.hid o_t3
  have L_t3 := Lib.hid o_t3.lt
  clear o_t3
  clear b6
  have hz := B.out.size
  go_wp2_with fail
  clear hz
  obtain ⟨w7, hW0⟩ : ∃ x, x = w6.alloc (.cells #[.bool ng0, .slice a_t3 (zs0).length c_t3] 27) := ⟨_, rfl⟩
  replace O_w_0 := Lib.hid (show OwnI w7 _ _ _ by rw [hW0]; exact O_w_0.out.alloc _)
  replace O_w_1 := Lib.hid (show OwnI w7 _ _ _ by rw [hW0]; exact O_w_1.out.alloc _)
  replace O_t3 := Lib.hid (show OwnI w7 _ _ _ by rw [hW0]; exact O_t3.out.alloc _)
  replace D_a0 := Lib.hid (show Bx w7 _ _ _ _ by rw [hW0]; exact D_a0.out.alloc _)
  replace D_w_0 := Lib.hid (show Bx w7 _ _ _ _ by rw [hW0]; exact D_w_0.out.alloc _)
  have D_t3 := Lib.hid (show Bx w7 w6.heap.size 27 ng0 (.slice a_t3 (zs0).length c_t3) by rw [hW0]; exact Bx.new _ _ _ _)
  replace B := Lib.hid (show Below W.heap.size W w7 by rw [hW0]; exact B.out.alloc B.out.size _)
  have z7 := Lib.hid (show w6.heap.size ≤ w7.heap.size by rw [hW0]; simp)
  rw [← hW0]
  clear hW0
  refine (to_ints _ zs1 _ (rowOf_below R1.out B.out) (by rw [N1.out]; omega)).mono ?_
  rintro e w8 ⟨v_t4, rfl, o_t4, b8⟩
  obtain ⟨a_t4, c_t4, rfl⟩ := o_t4.slice
  have z8 := Lib.hid b8.size
  replace O_w_0 := Lib.hid (O_w_0.out.below b8)
  replace O_w_1 := Lib.hid (O_w_1.out.below b8)
  replace O_t3 := Lib.hid (O_t3.out.below b8)
  replace D_a0 := Lib.hid (D_a0.out.below b8)
  replace D_w_0 := Lib.hid (D_w_0.out.below b8)
  replace D_t3 := Lib.hid (D_t3.out.below b8)
  replace B := Lib.hid (B.out.trans (b8.mono B.out.size))
  have O_t4 := Lib.hid o_t4
  have L_t4 := Lib.hid o_t4.lt
  clear o_t4
  clear b8
  have c0_t3 := D_t3.out.c0
  have c1_t3 := D_t3.out.c1
  go_wp2_with fail
  clear c0_t3 c1_t3
  refine (impl_bigFloorDiv ng0 _ zs0 _ zs1 _  O_t3.out.row O_t4.out.row).mono ?_
  rintro e w9 ⟨v_g_0, v_g_1, rfl, o_g_0, o_g_1, ap_g_, b9⟩
  obtain ⟨a_g_0, c_g_0, rfl⟩ := o_g_0.slice
  obtain ⟨a_g_1, c_g_1, rfl⟩ := o_g_1.slice
  have z9 := Lib.hid b9.size
  replace O_w_0 := Lib.hid (O_w_0.out.below b9)
  replace O_w_1 := Lib.hid (O_w_1.out.below b9)
  replace O_t3 := Lib.hid (O_t3.out.below b9)
  replace O_t4 := Lib.hid (O_t4.out.below b9)
  replace D_a0 := Lib.hid (D_a0.out.below b9)
  replace D_w_0 := Lib.hid (D_w_0.out.below b9)
  replace D_t3 := Lib.hid (D_t3.out.below b9)
  replace B := Lib.hid (B.out.trans (b9.mono B.out.size))
  have O_g_0 := Lib.hid o_g_0
  have L_g_0 := Lib.hid o_g_0.lt
  clear o_g_0
  have O_g_1 := Lib.hid o_g_1
  have L_g_1 := Lib.hid o_g_1.lt
  clear o_g_1
  clear b9
  have AP_g_ := Lib.hid ap_g_
  clear ap_g_
  have c0_w_0 := D_w_0.out.c0
  have c1_w_0 := D_w_0.out.c1
  have hz := B.out.size
  have lt_w_0 := D_w_0.out.lt
  go_wp2_with fail
  clear c0_w_0 c1_w_0
  clear hz
  clear lt_w_0
  obtain ⟨w10, hW0⟩ : ∃ x, x = w9.alloc (.cells #[.bool (fdQB ng0 zs0 zs1), .slice a_g_0 (fdQL ng0 zs0 zs1).length c_g_0] 27) := ⟨_, rfl⟩
  replace O_w_0 := Lib.hid (show OwnI w10 _ _ _ by rw [hW0]; exact O_w_0.out.alloc _)
  replace O_w_1 := Lib.hid (show OwnI w10 _ _ _ by rw [hW0]; exact O_w_1.out.alloc _)
  replace O_t3 := Lib.hid (show OwnI w10 _ _ _ by rw [hW0]; exact O_t3.out.alloc _)
  replace O_t4 := Lib.hid (show OwnI w10 _ _ _ by rw [hW0]; exact O_t4.out.alloc _)
  replace O_g_0 := Lib.hid (show OwnI w10 _ _ _ by rw [hW0]; exact O_g_0.out.alloc _)
  replace O_g_1 := Lib.hid (show OwnI w10 _ _ _ by rw [hW0]; exact O_g_1.out.alloc _)
  replace D_a0 := Lib.hid (show Bx w10 _ _ _ _ by rw [hW0]; exact D_a0.out.alloc _)
  replace D_w_0 := Lib.hid (show Bx w10 _ _ _ _ by rw [hW0]; exact D_w_0.out.alloc _)
  replace D_t3 := Lib.hid (show Bx w10 _ _ _ _ by rw [hW0]; exact D_t3.out.alloc _)
  have D_g_0 := Lib.hid (show Bx w10 w9.heap.size 27 (fdQB ng0 zs0 zs1) (.slice a_g_0 (fdQL ng0 zs0 zs1).length c_g_0) by rw [hW0]; exact Bx.new _ _ _ _)
  replace B := Lib.hid (show Below W.heap.size W w10 by rw [hW0]; exact B.out.alloc B.out.size _)
  have z10 := Lib.hid (show w9.heap.size ≤ w10.heap.size by rw [hW0]; simp)
  rw [← hW0]
  clear hW0
  refine (eq_bigsB _ _ _ _ O_g_0.out.row O_w_0.out.row).mono ?_
  rintro e w11 ⟨rfl, b11⟩
  have z11 := Lib.hid b11.size
  replace O_w_0 := Lib.hid (O_w_0.out.below b11)
  replace O_w_1 := Lib.hid (O_w_1.out.below b11)
  replace O_t3 := Lib.hid (O_t3.out.below b11)
  replace O_t4 := Lib.hid (O_t4.out.below b11)
  replace O_g_0 := Lib.hid (O_g_0.out.below b11)
  replace O_g_1 := Lib.hid (O_g_1.out.below b11)
  replace D_a0 := Lib.hid (D_a0.out.below b11)
  replace D_w_0 := Lib.hid (D_w_0.out.below b11)
  replace D_t3 := Lib.hid (D_t3.out.below b11)
  replace D_g_0 := Lib.hid (D_g_0.out.below b11)
  replace B := Lib.hid (B.out.trans (b11.mono B.out.size))
  clear b11
  go_wp2_with fail
  refine (eq_intsB _ _ _ _ O_g_1.out.row O_w_1.out.row).mono ?_
  rintro e w12 ⟨rfl, b12⟩
  have z12 := Lib.hid b12.size
  replace O_w_0 := Lib.hid (O_w_0.out.below b12)
  replace O_w_1 := Lib.hid (O_w_1.out.below b12)
  replace O_t3 := Lib.hid (O_t3.out.below b12)
  replace O_t4 := Lib.hid (O_t4.out.below b12)
  replace O_g_0 := Lib.hid (O_g_0.out.below b12)
  replace O_g_1 := Lib.hid (O_g_1.out.below b12)
  replace D_a0 := Lib.hid (D_a0.out.below b12)
  replace D_w_0 := Lib.hid (D_w_0.out.below b12)
  replace D_t3 := Lib.hid (D_t3.out.below b12)
  replace D_g_0 := Lib.hid (D_g_0.out.below b12)
  replace B := Lib.hid (B.out.trans (b12.mono B.out.size))
  clear b12
  go_wp2_with fail
  go_wp2_with fail
  have c0_t3 := D_t3.out.c0
  have c1_t3 := D_t3.out.c1
  have c0_a0 := D_a0.out.c0
  have c1_a0 := D_a0.out.c1
  have lt_t3 := D_t3.out.lt
  have lt_a0 := D_a0.out.lt
  go_region_held3 (fun w' => w'.cell? ⟨w6.heap.size, 0, none⟩ = some (.bool ng0) ∧ w'.cell? ⟨w6.heap.size, 1, none⟩ = some (.slice a_t3 (zs0).length c_t3) ∧ w'.cell? ⟨W.heap.size, 0, none⟩ = some (.bool ng0) ∧ w'.cell? ⟨W.heap.size, 1, none⟩ = some (.slice a0 m0 c0)) (first | exact ⟨d14_0_t3, d14_1_t3, d14_0_a0, d14_1_a0⟩ | exact ⟨d13_0_t3, d13_1_t3, d13_0_a0, d13_1_a0⟩ | exact ⟨c0_t3, c1_t3, c0_a0, c1_a0⟩)
    (first
      | (have := bb13; go_at_call 16; refine (eq_bigsB _ _ _ _ (rowOf_below O_t3.out.row bb13) o_t5.row).mono ?_; rintro e w14 ⟨rfl, b14⟩; have bb14 : Below w12.heap.size w12 w14 := bb13.trans (b14.mono bb13.size); have d14_0_t3 := (bb14.cell (p := ⟨w6.heap.size, 0, none⟩) lt_t3).trans c0_t3; have d14_1_t3 := (bb14.cell (p := ⟨w6.heap.size, 1, none⟩) lt_t3).trans c1_t3; have d14_0_a0 := (bb14.cell (p := ⟨W.heap.size, 0, none⟩) lt_a0).trans c0_a0; have d14_1_a0 := (bb14.cell (p := ⟨W.heap.size, 1, none⟩) lt_a0).trans c1_a0)
      | (go_at_call 14; refine (to_bigs _ zs0 _ (rowOf_below R0.out (B.out.trans (Below.mono (by first | exact Below.refl _ _ | exact (Below.refl _ _).drew) B.out.size))) (by rw [N0.out]; omega)).mono ?_; rintro e w13 ⟨v_t5, rfl, o_t5, b13⟩; obtain ⟨a_t5, c_t5, rfl⟩ := o_t5.slice; have bb13 : Below w12.heap.size w12 w13 := (by first | exact b13 | exact ((Below.refl _ _).drew).trans b13); have d13_0_t3 := (bb13.cell (p := ⟨w6.heap.size, 0, none⟩) lt_t3).trans c0_t3; have d13_1_t3 := (bb13.cell (p := ⟨w6.heap.size, 1, none⟩) lt_t3).trans c1_t3; have d13_0_a0 := (bb13.cell (p := ⟨W.heap.size, 0, none⟩) lt_a0).trans c0_a0; have d13_1_a0 := (bb13.cell (p := ⟨W.heap.size, 1, none⟩) lt_a0).trans c1_a0))
  clear b13
  have b13 := bb13
  replace o_t5 : OwnI w13 w12.heap.size _ _ := o_t5
  have z13 := Lib.hid b13.size
  replace O_w_0 := Lib.hid (O_w_0.out.below b13)
  replace O_w_1 := Lib.hid (O_w_1.out.below b13)
  replace O_t3 := Lib.hid (O_t3.out.below b13)
  replace O_t4 := Lib.hid (O_t4.out.below b13)
  replace O_g_0 := Lib.hid (O_g_0.out.below b13)
  replace O_g_1 := Lib.hid (O_g_1.out.below b13)
  replace D_a0 := Lib.hid (D_a0.out.below b13)
  replace D_w_0 := Lib.hid (D_w_0.out.below b13)
  replace D_t3 := Lib.hid (D_t3.out.below b13)
  replace D_g_0 := Lib.hid (D_g_0.out.below b13)
  replace B := Lib.hid (B.out.trans (b13.mono B.out.size))
  have O_t5 := Lib.hid o_t5
  have L_t5 := Lib.hid o_t5.lt
  clear o_t5
  clear b13
  clear d13_0_t3 d13_1_t3
  clear d13_0_a0 d13_1_a0
  have z14 := Lib.hid b14.size
  replace O_w_0 := Lib.hid (O_w_0.out.below b14)
  replace O_w_1 := Lib.hid (O_w_1.out.below b14)
  replace O_t3 := Lib.hid (O_t3.out.below b14)
  replace O_t4 := Lib.hid (O_t4.out.below b14)
  replace O_g_0 := Lib.hid (O_g_0.out.below b14)
  replace O_g_1 := Lib.hid (O_g_1.out.below b14)
  replace O_t5 := Lib.hid (O_t5.out.below b14)
  replace D_a0 := Lib.hid (D_a0.out.below b14)
  replace D_w_0 := Lib.hid (D_w_0.out.below b14)
  replace D_t3 := Lib.hid (D_t3.out.below b14)
  replace D_g_0 := Lib.hid (D_g_0.out.below b14)
  replace B := Lib.hid (B.out.trans (b14.mono B.out.size))
  clear b14
  clear d14_0_t3 d14_1_t3
  clear d14_0_a0 d14_1_a0
  clear bb13 bb14
  clear c0_t3 c1_t3
  clear c0_a0 c1_a0
  clear lt_t3
  clear lt_a0
  clear O_t5 L_t5
  go_wp2_with fail
  refine (to_ints _ zs1 _ (rowOf_below R1.out B.out) (by rw [N1.out]; omega)).mono ?_
  rintro e w15 ⟨v_t6, rfl, o_t6, b15⟩
  obtain ⟨a_t6, c_t6, rfl⟩ := o_t6.slice
  have z15 := Lib.hid b15.size
  replace O_w_0 := Lib.hid (O_w_0.out.below b15)
  replace O_w_1 := Lib.hid (O_w_1.out.below b15)
  replace O_t3 := Lib.hid (O_t3.out.below b15)
  replace O_t4 := Lib.hid (O_t4.out.below b15)
  replace O_g_0 := Lib.hid (O_g_0.out.below b15)
  replace O_g_1 := Lib.hid (O_g_1.out.below b15)
  replace D_a0 := Lib.hid (D_a0.out.below b15)
  replace D_w_0 := Lib.hid (D_w_0.out.below b15)
  replace D_t3 := Lib.hid (D_t3.out.below b15)
  replace D_g_0 := Lib.hid (D_g_0.out.below b15)
  replace B := Lib.hid (B.out.trans (b15.mono B.out.size))
  have O_t6 := Lib.hid o_t6
  have L_t6 := Lib.hid o_t6.lt
  clear o_t6
  clear b15
  go_wp2_with fail
  refine (eq_intsB _ _ _ _ O_t4.out.row O_t6.out.row).mono ?_
  rintro e w16 ⟨rfl, b16⟩
  have z16 := Lib.hid b16.size
  replace O_w_0 := Lib.hid (O_w_0.out.below b16)
  replace O_w_1 := Lib.hid (O_w_1.out.below b16)
  replace O_t3 := Lib.hid (O_t3.out.below b16)
  replace O_t4 := Lib.hid (O_t4.out.below b16)
  replace O_g_0 := Lib.hid (O_g_0.out.below b16)
  replace O_g_1 := Lib.hid (O_g_1.out.below b16)
  replace O_t6 := Lib.hid (O_t6.out.below b16)
  replace D_a0 := Lib.hid (D_a0.out.below b16)
  replace D_w_0 := Lib.hid (D_w_0.out.below b16)
  replace D_t3 := Lib.hid (D_t3.out.below b16)
  replace D_g_0 := Lib.hid (D_g_0.out.below b16)
  replace B := Lib.hid (B.out.trans (b16.mono B.out.size))
  clear b16
  clear O_t6 L_t6
  have c0_t3 := D_t3.out.c0
  have c1_t3 := D_t3.out.c1
  go_wp2_with fail
  clear c0_t3 c1_t3
  refine (mark_bigs _ (1) _ _ _ _ (by simp) O_t3.out (by rw [N0.out]; omega)).mono ?_
  rintro e w17 ⟨rfl, o17, b17⟩
  have z17 := Lib.hid (grownBy_size b17)
  replace D_a0 := Lib.hid (D_a0.out.marked O_t3.out (by decide) b17)
  replace D_w_0 := Lib.hid (D_w_0.out.marked O_t3.out (by decide) b17)
  replace D_t3 := Lib.hid (D_t3.out.marked O_t3.out (by decide) b17)
  replace D_g_0 := Lib.hid (D_g_0.out.marked O_t3.out (by decide) b17)
  have OLD := O_t3
  replace O_w_0 := Lib.hid (O_w_0.out.other b17 (fun g g' e1 e2 => by have := L_w_0.out g e1; have := L_t3.out g' e2; have := z0.out; have := z1.out; have := z2.out; have := z3.out; have := z4.out; have := z5.out; have := z6.out; have := z7.out; have := z8.out; have := z9.out; have := z10.out; have := z11.out; have := z12.out; have := z13.out; have := z14.out; have := z15.out; have := z16.out; omega))
  replace O_w_1 := Lib.hid (O_w_1.out.other b17 (fun g g' e1 e2 => by have := L_w_1.out g e1; have := L_t3.out g' e2; have := z0.out; have := z1.out; have := z2.out; have := z3.out; have := z4.out; have := z5.out; have := z6.out; have := z7.out; have := z8.out; have := z9.out; have := z10.out; have := z11.out; have := z12.out; have := z13.out; have := z14.out; have := z15.out; have := z16.out; omega))
  replace O_t3 := Lib.hid o17
  replace O_t4 := Lib.hid (O_t4.out.other b17 (fun g g' e1 e2 => by have := L_t4.out g e1; have := L_t3.out g' e2; have := z0.out; have := z1.out; have := z2.out; have := z3.out; have := z4.out; have := z5.out; have := z6.out; have := z7.out; have := z8.out; have := z9.out; have := z10.out; have := z11.out; have := z12.out; have := z13.out; have := z14.out; have := z15.out; have := z16.out; omega))
  replace O_g_0 := Lib.hid (O_g_0.out.other b17 (fun g g' e1 e2 => by have := L_g_0.out g e1; have := L_t3.out g' e2; have := z0.out; have := z1.out; have := z2.out; have := z3.out; have := z4.out; have := z5.out; have := z6.out; have := z7.out; have := z8.out; have := z9.out; have := z10.out; have := z11.out; have := z12.out; have := z13.out; have := z14.out; have := z15.out; have := z16.out; omega))
  replace O_g_1 := Lib.hid (O_g_1.out.other b17 (fun g g' e1 e2 => by have := L_g_1.out g e1; have := L_t3.out g' e2; have := z0.out; have := z1.out; have := z2.out; have := z3.out; have := z4.out; have := z5.out; have := z6.out; have := z7.out; have := z8.out; have := z9.out; have := z10.out; have := z11.out; have := z12.out; have := z13.out; have := z14.out; have := z15.out; have := z16.out; omega))
  clear OLD
  replace B := Lib.hid (Below.grown B.out b17 B.out.size (fun g hg => by have := L_t3.out g hg; have := z0.out; have := z1.out; have := z2.out; have := z3.out; have := z4.out; have := z5.out; have := z6.out; have := z7.out; have := z8.out; have := z9.out; have := z10.out; have := z11.out; have := z12.out; have := z13.out; have := z14.out; have := z15.out; have := z16.out; have := B.out.size; omega))
  clear o17
  clear b17
  rw [N0.out]
  go_wp2_with fail
  refine (mark_ints _ (1 + m0) _ _ _ _ (by simp) O_t4.out (by rw [N1.out]; omega)).mono ?_
  rintro e w18 ⟨rfl, o18, b18⟩
  have z18 := Lib.hid (grownBy_size b18)
  replace D_a0 := Lib.hid (D_a0.out.marked O_t4.out (by decide) b18)
  replace D_w_0 := Lib.hid (D_w_0.out.marked O_t4.out (by decide) b18)
  replace D_t3 := Lib.hid (D_t3.out.marked O_t4.out (by decide) b18)
  replace D_g_0 := Lib.hid (D_g_0.out.marked O_t4.out (by decide) b18)
  have OLD := O_t4
  replace O_w_0 := Lib.hid (O_w_0.out.other b18 (fun g g' e1 e2 => by have := L_w_0.out g e1; have := L_t4.out g' e2; have := z0.out; have := z1.out; have := z2.out; have := z3.out; have := z4.out; have := z5.out; have := z6.out; have := z7.out; have := z8.out; have := z9.out; have := z10.out; have := z11.out; have := z12.out; have := z13.out; have := z14.out; have := z15.out; have := z16.out; have := z17.out; omega))
  replace O_w_1 := Lib.hid (O_w_1.out.other b18 (fun g g' e1 e2 => by have := L_w_1.out g e1; have := L_t4.out g' e2; have := z0.out; have := z1.out; have := z2.out; have := z3.out; have := z4.out; have := z5.out; have := z6.out; have := z7.out; have := z8.out; have := z9.out; have := z10.out; have := z11.out; have := z12.out; have := z13.out; have := z14.out; have := z15.out; have := z16.out; have := z17.out; omega))
  replace O_t3 := Lib.hid (O_t3.out.other b18 (fun g g' e1 e2 => by have := L_t3.out g e1; have := L_t4.out g' e2; have := z0.out; have := z1.out; have := z2.out; have := z3.out; have := z4.out; have := z5.out; have := z6.out; have := z7.out; have := z8.out; have := z9.out; have := z10.out; have := z11.out; have := z12.out; have := z13.out; have := z14.out; have := z15.out; have := z16.out; have := z17.out; omega))
  replace O_t4 := Lib.hid o18
  replace O_g_0 := Lib.hid (O_g_0.out.other b18 (fun g g' e1 e2 => by have := L_g_0.out g e1; have := L_t4.out g' e2; have := z0.out; have := z1.out; have := z2.out; have := z3.out; have := z4.out; have := z5.out; have := z6.out; have := z7.out; have := z8.out; have := z9.out; have := z10.out; have := z11.out; have := z12.out; have := z13.out; have := z14.out; have := z15.out; have := z16.out; have := z17.out; omega))
  replace O_g_1 := Lib.hid (O_g_1.out.other b18 (fun g g' e1 e2 => by have := L_g_1.out g e1; have := L_t4.out g' e2; have := z0.out; have := z1.out; have := z2.out; have := z3.out; have := z4.out; have := z5.out; have := z6.out; have := z7.out; have := z8.out; have := z9.out; have := z10.out; have := z11.out; have := z12.out; have := z13.out; have := z14.out; have := z15.out; have := z16.out; have := z17.out; omega))
  clear OLD
  replace B := Lib.hid (Below.grown B.out b18 B.out.size (fun g hg => by have := L_t4.out g hg; have := z0.out; have := z1.out; have := z2.out; have := z3.out; have := z4.out; have := z5.out; have := z6.out; have := z7.out; have := z8.out; have := z9.out; have := z10.out; have := z11.out; have := z12.out; have := z13.out; have := z14.out; have := z15.out; have := z16.out; have := z17.out; have := B.out.size; omega))
  clear o18
  clear b18
  rw [N1.out]
  clear O_t3 L_t3
  clear O_t4 L_t4
  have c0_g_0 := D_g_0.out.c0
  have c1_g_0 := D_g_0.out.c1
  have c0_w_0 := D_w_0.out.c0
  have c1_w_0 := D_w_0.out.c1
  go_wp2_with fail
  clear c0_g_0 c1_g_0
  clear c0_w_0 c1_w_0
  refine (eq_bigsB _ _ _ _ O_g_0.out.row O_w_0.out.row).mono ?_
  rintro e w19 ⟨rfl, b19⟩
  have z19 := Lib.hid b19.size
  replace O_w_0 := Lib.hid (O_w_0.out.below b19)
  replace O_w_1 := Lib.hid (O_w_1.out.below b19)
  replace O_g_0 := Lib.hid (O_g_0.out.below b19)
  replace O_g_1 := Lib.hid (O_g_1.out.below b19)
  replace D_a0 := Lib.hid (D_a0.out.below b19)
  replace D_w_0 := Lib.hid (D_w_0.out.below b19)
  replace D_t3 := Lib.hid (D_t3.out.below b19)
  replace D_g_0 := Lib.hid (D_g_0.out.below b19)
  replace B := Lib.hid (B.out.trans (b19.mono B.out.size))
  clear b19
  go_wp2_with fail
  refine (eq_intsB _ _ _ _ O_g_1.out.row O_w_1.out.row).mono ?_
  rintro e w20 ⟨rfl, b20⟩
  have z20 := Lib.hid b20.size
  replace O_w_0 := Lib.hid (O_w_0.out.below b20)
  replace O_w_1 := Lib.hid (O_w_1.out.below b20)
  replace O_g_0 := Lib.hid (O_g_0.out.below b20)
  replace O_g_1 := Lib.hid (O_g_1.out.below b20)
  replace D_a0 := Lib.hid (D_a0.out.below b20)
  replace D_w_0 := Lib.hid (D_w_0.out.below b20)
  replace D_t3 := Lib.hid (D_t3.out.below b20)
  replace D_g_0 := Lib.hid (D_g_0.out.below b20)
  replace B := Lib.hid (B.out.trans (b20.mono B.out.size))
  clear b20
  have hl_0 := Lib.hid (fdQL_len ng0 zs0 zs1)
  have hl_1 := Lib.hid (fdRL_len ng0 zs0 zs1)
  have hq0 : (fdQL ng0 zs0 zs1).length ≤ 1000 := hl_0.out
  have hq1 : (fdRL ng0 zs0 zs1).length ≤ 1000 := hl_1.out
  have c0_g_0 := D_g_0.out.c0
  have c1_g_0 := D_g_0.out.c1
  go_wp2_with fail
  clear c0_g_0 c1_g_0
  refine (mark_bigs _ (1) _ _ _ _ (by simp) O_g_0.out (by omega)).mono ?_
  rintro e w21 ⟨rfl, o21, b21⟩
  have z21 := Lib.hid (grownBy_size b21)
  replace D_a0 := Lib.hid (D_a0.out.marked O_g_0.out (by decide) b21)
  replace D_w_0 := Lib.hid (D_w_0.out.marked O_g_0.out (by decide) b21)
  replace D_t3 := Lib.hid (D_t3.out.marked O_g_0.out (by decide) b21)
  replace D_g_0 := Lib.hid (D_g_0.out.marked O_g_0.out (by decide) b21)
  have OLD := O_g_0
  replace O_w_0 := Lib.hid (O_w_0.out.other b21 (fun g g' e1 e2 => by have := L_w_0.out g e1; have := L_g_0.out g' e2; have := z0.out; have := z1.out; have := z2.out; have := z3.out; have := z4.out; have := z5.out; have := z6.out; have := z7.out; have := z8.out; have := z9.out; have := z10.out; have := z11.out; have := z12.out; have := z13.out; have := z14.out; have := z15.out; have := z16.out; have := z17.out; have := z18.out; have := z19.out; have := z20.out; omega))
  replace O_w_1 := Lib.hid (O_w_1.out.other b21 (fun g g' e1 e2 => by have := L_w_1.out g e1; have := L_g_0.out g' e2; have := z0.out; have := z1.out; have := z2.out; have := z3.out; have := z4.out; have := z5.out; have := z6.out; have := z7.out; have := z8.out; have := z9.out; have := z10.out; have := z11.out; have := z12.out; have := z13.out; have := z14.out; have := z15.out; have := z16.out; have := z17.out; have := z18.out; have := z19.out; have := z20.out; omega))
  replace O_g_0 := Lib.hid o21
  replace O_g_1 := Lib.hid (O_g_1.out.other b21 (fun g g' e1 e2 => (AP_g_.out g' g e2 e1).symm))
  clear OLD
  replace B := Lib.hid (Below.grown B.out b21 B.out.size (fun g hg => by have := L_g_0.out g hg; have := z0.out; have := z1.out; have := z2.out; have := z3.out; have := z4.out; have := z5.out; have := z6.out; have := z7.out; have := z8.out; have := z9.out; have := z10.out; have := z11.out; have := z12.out; have := z13.out; have := z14.out; have := z15.out; have := z16.out; have := z17.out; have := z18.out; have := z19.out; have := z20.out; have := B.out.size; omega))
  clear o21
  clear b21
  go_wp2_with fail
  refine (mark_ints _ (1 + (fdQL ng0 zs0 zs1).length) _ _ _ _ (by simp) O_g_1.out (by omega)).mono ?_
  rintro e w22 ⟨rfl, o22, b22⟩
  have z22 := Lib.hid (grownBy_size b22)
  replace D_a0 := Lib.hid (D_a0.out.marked O_g_1.out (by decide) b22)
  replace D_w_0 := Lib.hid (D_w_0.out.marked O_g_1.out (by decide) b22)
  replace D_t3 := Lib.hid (D_t3.out.marked O_g_1.out (by decide) b22)
  replace D_g_0 := Lib.hid (D_g_0.out.marked O_g_1.out (by decide) b22)
  have OLD := O_g_1
  replace O_w_0 := Lib.hid (O_w_0.out.other b22 (fun g g' e1 e2 => by have := L_w_0.out g e1; have := L_g_1.out g' e2; have := z0.out; have := z1.out; have := z2.out; have := z3.out; have := z4.out; have := z5.out; have := z6.out; have := z7.out; have := z8.out; have := z9.out; have := z10.out; have := z11.out; have := z12.out; have := z13.out; have := z14.out; have := z15.out; have := z16.out; have := z17.out; have := z18.out; have := z19.out; have := z20.out; have := z21.out; omega))
  replace O_w_1 := Lib.hid (O_w_1.out.other b22 (fun g g' e1 e2 => by have := L_w_1.out g e1; have := L_g_1.out g' e2; have := z0.out; have := z1.out; have := z2.out; have := z3.out; have := z4.out; have := z5.out; have := z6.out; have := z7.out; have := z8.out; have := z9.out; have := z10.out; have := z11.out; have := z12.out; have := z13.out; have := z14.out; have := z15.out; have := z16.out; have := z17.out; have := z18.out; have := z19.out; have := z20.out; have := z21.out; omega))
  replace O_g_0 := Lib.hid (O_g_0.out.other b22 (fun g g' e1 e2 => AP_g_.out g g' e1 e2))
  replace O_g_1 := Lib.hid o22
  clear OLD
  replace B := Lib.hid (Below.grown B.out b22 B.out.size (fun g hg => by have := L_g_1.out g hg; have := z0.out; have := z1.out; have := z2.out; have := z3.out; have := z4.out; have := z5.out; have := z6.out; have := z7.out; have := z8.out; have := z9.out; have := z10.out; have := z11.out; have := z12.out; have := z13.out; have := z14.out; have := z15.out; have := z16.out; have := z17.out; have := z18.out; have := z19.out; have := z20.out; have := z21.out; have := B.out.size; omega))
  clear o22
  clear b22
  have c0_g_0 := D_g_0.out.c0
  have c1_g_0 := D_g_0.out.c1
  go_wp2_with fail
  clear c0_g_0 c1_g_0
  refine (held_bigsB _ (fdQL ng0 zs0 zs1).length (1) _ _ (by simp) O_g_0.out.row (by omega)).mono ?_
  rintro e w23 ⟨rfl, b23⟩
  have z23 := Lib.hid b23.size
  replace O_w_0 := Lib.hid (O_w_0.out.below b23)
  replace O_w_1 := Lib.hid (O_w_1.out.below b23)
  replace O_g_0 := Lib.hid (O_g_0.out.below b23)
  replace O_g_1 := Lib.hid (O_g_1.out.below b23)
  replace D_a0 := Lib.hid (D_a0.out.below b23)
  replace D_w_0 := Lib.hid (D_w_0.out.below b23)
  replace D_t3 := Lib.hid (D_t3.out.below b23)
  replace D_g_0 := Lib.hid (D_g_0.out.below b23)
  replace B := Lib.hid (B.out.trans (b23.mono B.out.size))
  clear b23
  go_wp2_with fail
  refine (held_intsB _ (fdRL ng0 zs0 zs1).length (1 + (fdQL ng0 zs0 zs1).length) _ _ (by simp) O_g_1.out.row (by omega)).mono ?_
  rintro e w24 ⟨rfl, b24⟩
  have z24 := Lib.hid b24.size
  replace O_w_0 := Lib.hid (O_w_0.out.below b24)
  replace O_w_1 := Lib.hid (O_w_1.out.below b24)
  replace O_g_0 := Lib.hid (O_g_0.out.below b24)
  replace O_g_1 := Lib.hid (O_g_1.out.below b24)
  replace D_a0 := Lib.hid (D_a0.out.below b24)
  replace D_w_0 := Lib.hid (D_w_0.out.below b24)
  replace D_t3 := Lib.hid (D_t3.out.below b24)
  replace D_g_0 := Lib.hid (D_g_0.out.below b24)
  replace B := Lib.hid (B.out.trans (b24.mono B.out.size))
  clear b24
  have c0_a0 := D_a0.out.c0
  have c1_a0 := D_a0.out.c1
  go_wp2_with fail
  clear c0_a0 c1_a0
  refine (to_bigs _ zs0 _ (rowOf_below R0.out B.out) (by rw [N0.out]; omega)).mono ?_
  rintro e w25 ⟨v_t7, rfl, o_t7, b25⟩
  obtain ⟨a_t7, c_t7, rfl⟩ := o_t7.slice
  have z25 := Lib.hid b25.size
  replace O_w_0 := Lib.hid (O_w_0.out.below b25)
  replace O_w_1 := Lib.hid (O_w_1.out.below b25)
  replace O_g_0 := Lib.hid (O_g_0.out.below b25)
  replace O_g_1 := Lib.hid (O_g_1.out.below b25)
  replace D_a0 := Lib.hid (D_a0.out.below b25)
  replace D_w_0 := Lib.hid (D_w_0.out.below b25)
  replace D_t3 := Lib.hid (D_t3.out.below b25)
  replace D_g_0 := Lib.hid (D_g_0.out.below b25)
  replace B := Lib.hid (B.out.trans (b25.mono B.out.size))
  have O_t7 := Lib.hid o_t7
  have L_t7 := Lib.hid o_t7.lt
  clear o_t7
  clear b25
  go_wp2_with fail
  refine (to_ints _ zs1 _ (rowOf_below R1.out B.out) (by rw [N1.out]; omega)).mono ?_
  rintro e w26 ⟨v_t8, rfl, o_t8, b26⟩
  obtain ⟨a_t8, c_t8, rfl⟩ := o_t8.slice
  have z26 := Lib.hid b26.size
  replace O_w_0 := Lib.hid (O_w_0.out.below b26)
  replace O_w_1 := Lib.hid (O_w_1.out.below b26)
  replace O_g_0 := Lib.hid (O_g_0.out.below b26)
  replace O_g_1 := Lib.hid (O_g_1.out.below b26)
  replace O_t7 := Lib.hid (O_t7.out.below b26)
  replace D_a0 := Lib.hid (D_a0.out.below b26)
  replace D_w_0 := Lib.hid (D_w_0.out.below b26)
  replace D_t3 := Lib.hid (D_t3.out.below b26)
  replace D_g_0 := Lib.hid (D_g_0.out.below b26)
  replace B := Lib.hid (B.out.trans (b26.mono B.out.size))
  have O_t8 := Lib.hid o_t8
  have L_t8 := Lib.hid o_t8.lt
  clear o_t8
  clear b26
  go_wp2_with fail
  refine (impl_bigFloorDiv ng0 _ zs0 _ zs1 _  O_t7.out.row O_t8.out.row).mono ?_
  rintro e w27 ⟨v_h_0, v_h_1, rfl, o_h_0, o_h_1, ap_h_, b27⟩
  obtain ⟨a_h_0, c_h_0, rfl⟩ := o_h_0.slice
  obtain ⟨a_h_1, c_h_1, rfl⟩ := o_h_1.slice
  have z27 := Lib.hid b27.size
  replace O_w_0 := Lib.hid (O_w_0.out.below b27)
  replace O_w_1 := Lib.hid (O_w_1.out.below b27)
  replace O_g_0 := Lib.hid (O_g_0.out.below b27)
  replace O_g_1 := Lib.hid (O_g_1.out.below b27)
  replace O_t7 := Lib.hid (O_t7.out.below b27)
  replace O_t8 := Lib.hid (O_t8.out.below b27)
  replace D_a0 := Lib.hid (D_a0.out.below b27)
  replace D_w_0 := Lib.hid (D_w_0.out.below b27)
  replace D_t3 := Lib.hid (D_t3.out.below b27)
  replace D_g_0 := Lib.hid (D_g_0.out.below b27)
  replace B := Lib.hid (B.out.trans (b27.mono B.out.size))
  have O_h_0 := Lib.hid o_h_0
  have L_h_0 := Lib.hid o_h_0.lt
  clear o_h_0
  have O_h_1 := Lib.hid o_h_1
  have L_h_1 := Lib.hid o_h_1.lt
  clear o_h_1
  clear b27
  have AP_h_ := Lib.hid ap_h_
  clear ap_h_
  clear O_t7 L_t7
  clear O_t8 L_t8
  have c0_w_0 := D_w_0.out.c0
  have c1_w_0 := D_w_0.out.c1
  have hz := B.out.size
  have lt_w_0 := D_w_0.out.lt
  go_wp2_with fail
  clear c0_w_0 c1_w_0
  clear hz
  clear lt_w_0
  obtain ⟨w28, hW0⟩ : ∃ x, x = w27.alloc (.cells #[.bool (fdQB ng0 zs0 zs1), .slice a_h_0 (fdQL ng0 zs0 zs1).length c_h_0] 27) := ⟨_, rfl⟩
  replace O_w_0 := Lib.hid (show OwnI w28 _ _ _ by rw [hW0]; exact O_w_0.out.alloc _)
  replace O_w_1 := Lib.hid (show OwnI w28 _ _ _ by rw [hW0]; exact O_w_1.out.alloc _)
  replace O_g_0 := Lib.hid (show OwnI w28 _ _ _ by rw [hW0]; exact O_g_0.out.alloc _)
  replace O_g_1 := Lib.hid (show OwnI w28 _ _ _ by rw [hW0]; exact O_g_1.out.alloc _)
  replace O_h_0 := Lib.hid (show OwnI w28 _ _ _ by rw [hW0]; exact O_h_0.out.alloc _)
  replace O_h_1 := Lib.hid (show OwnI w28 _ _ _ by rw [hW0]; exact O_h_1.out.alloc _)
  replace D_a0 := Lib.hid (show Bx w28 _ _ _ _ by rw [hW0]; exact D_a0.out.alloc _)
  replace D_w_0 := Lib.hid (show Bx w28 _ _ _ _ by rw [hW0]; exact D_w_0.out.alloc _)
  replace D_t3 := Lib.hid (show Bx w28 _ _ _ _ by rw [hW0]; exact D_t3.out.alloc _)
  replace D_g_0 := Lib.hid (show Bx w28 _ _ _ _ by rw [hW0]; exact D_g_0.out.alloc _)
  have D_h_0 := Lib.hid (show Bx w28 w27.heap.size 27 (fdQB ng0 zs0 zs1) (.slice a_h_0 (fdQL ng0 zs0 zs1).length c_h_0) by rw [hW0]; exact Bx.new _ _ _ _)
  replace B := Lib.hid (show Below W.heap.size W w28 by rw [hW0]; exact B.out.alloc B.out.size _)
  have z28 := Lib.hid (show w27.heap.size ≤ w28.heap.size by rw [hW0]; simp)
  rw [← hW0]
  clear hW0
  refine (eq_bigsB _ _ _ _ O_h_0.out.row O_w_0.out.row).mono ?_
  rintro e w29 ⟨rfl, b29⟩
  have z29 := Lib.hid b29.size
  replace O_w_0 := Lib.hid (O_w_0.out.below b29)
  replace O_w_1 := Lib.hid (O_w_1.out.below b29)
  replace O_g_0 := Lib.hid (O_g_0.out.below b29)
  replace O_g_1 := Lib.hid (O_g_1.out.below b29)
  replace O_h_0 := Lib.hid (O_h_0.out.below b29)
  replace O_h_1 := Lib.hid (O_h_1.out.below b29)
  replace D_a0 := Lib.hid (D_a0.out.below b29)
  replace D_w_0 := Lib.hid (D_w_0.out.below b29)
  replace D_t3 := Lib.hid (D_t3.out.below b29)
  replace D_g_0 := Lib.hid (D_g_0.out.below b29)
  replace D_h_0 := Lib.hid (D_h_0.out.below b29)
  replace B := Lib.hid (B.out.trans (b29.mono B.out.size))
  clear b29
  go_wp2_with fail
  refine (eq_intsB _ _ _ _ O_h_1.out.row O_w_1.out.row).mono ?_
  rintro e w30 ⟨rfl, b30⟩
  have z30 := Lib.hid b30.size
  replace O_w_0 := Lib.hid (O_w_0.out.below b30)
  replace O_w_1 := Lib.hid (O_w_1.out.below b30)
  replace O_g_0 := Lib.hid (O_g_0.out.below b30)
  replace O_g_1 := Lib.hid (O_g_1.out.below b30)
  replace O_h_0 := Lib.hid (O_h_0.out.below b30)
  replace O_h_1 := Lib.hid (O_h_1.out.below b30)
  replace D_a0 := Lib.hid (D_a0.out.below b30)
  replace D_w_0 := Lib.hid (D_w_0.out.below b30)
  replace D_t3 := Lib.hid (D_t3.out.below b30)
  replace D_g_0 := Lib.hid (D_g_0.out.below b30)
  replace D_h_0 := Lib.hid (D_h_0.out.below b30)
  replace B := Lib.hid (B.out.trans (b30.mono B.out.size))
  clear b30
  have c0_g_0 := D_g_0.out.c0
  have c1_g_0 := D_g_0.out.c1
  go_wp2_with fail
  clear c0_g_0 c1_g_0
  refine (held_bigsB _ (fdQL ng0 zs0 zs1).length (1) _ _ (by simp) O_g_0.out.row (by omega)).mono ?_
  rintro e w31 ⟨rfl, b31⟩
  have z31 := Lib.hid b31.size
  replace O_w_0 := Lib.hid (O_w_0.out.below b31)
  replace O_w_1 := Lib.hid (O_w_1.out.below b31)
  replace O_g_0 := Lib.hid (O_g_0.out.below b31)
  replace O_g_1 := Lib.hid (O_g_1.out.below b31)
  replace O_h_0 := Lib.hid (O_h_0.out.below b31)
  replace O_h_1 := Lib.hid (O_h_1.out.below b31)
  replace D_a0 := Lib.hid (D_a0.out.below b31)
  replace D_w_0 := Lib.hid (D_w_0.out.below b31)
  replace D_t3 := Lib.hid (D_t3.out.below b31)
  replace D_g_0 := Lib.hid (D_g_0.out.below b31)
  replace D_h_0 := Lib.hid (D_h_0.out.below b31)
  replace B := Lib.hid (B.out.trans (b31.mono B.out.size))
  clear b31
  go_wp2_with fail
  refine (held_intsB _ (fdRL ng0 zs0 zs1).length (1 + (fdQL ng0 zs0 zs1).length) _ _ (by simp) O_g_1.out.row (by omega)).mono ?_
  rintro e w32 ⟨rfl, b32⟩
  have z32 := Lib.hid b32.size
  replace O_w_0 := Lib.hid (O_w_0.out.below b32)
  replace O_w_1 := Lib.hid (O_w_1.out.below b32)
  replace O_g_0 := Lib.hid (O_g_0.out.below b32)
  replace O_g_1 := Lib.hid (O_g_1.out.below b32)
  replace O_h_0 := Lib.hid (O_h_0.out.below b32)
  replace O_h_1 := Lib.hid (O_h_1.out.below b32)
  replace D_a0 := Lib.hid (D_a0.out.below b32)
  replace D_w_0 := Lib.hid (D_w_0.out.below b32)
  replace D_t3 := Lib.hid (D_t3.out.below b32)
  replace D_g_0 := Lib.hid (D_g_0.out.below b32)
  replace D_h_0 := Lib.hid (D_h_0.out.below b32)
  replace B := Lib.hid (B.out.trans (b32.mono B.out.size))
  clear b32
  go_wp2
  go_ret
  exact ⟨rfl, B.out⟩


end Go.Proofs.Ytofmpfcbdemcnaa
