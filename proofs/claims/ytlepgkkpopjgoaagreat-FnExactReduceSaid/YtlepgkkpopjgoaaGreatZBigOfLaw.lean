/- BigIntOf of the program and of the model; its exact law. -/
import Derived.Test.YtlepgkkpopjgoaaGreatZSigned
import Derived.Test.YtlepgkkpopjgoaaGreatZSums
import Derived.Test.YtlepgkkpopjgoaaGreatZQuot
namespace Go.Proofs.YtlepgkkpopjgoaaGreat
open Go.RowKit

theorem limI_min : limI 9223372036854775808 = [854775808, 223372036, 9] := by
  have h : nlen 9223372036854775808 = 2 + 1 := nlen_eq (by simp only [pw]; omega) (by simp only [pw]; omega)
  unfold limI
  rw [h]
  rfl
def ofB (n : Int) : Bool := decide (n < 0)
def ofL (n : Int) : List Int := limI n.natAbs
theorem of_small {N : Nat} (h : N ≤ 9223372036854775808) : capL N = limI N := capL_yes (Nat.lt_of_lt_of_le (by simp only [pw]; omega : N < pw 3) (pw_mono (by omega)))
theorem of_pos {N : Nat} (h : N ≤ 9223372036854775808) (h0 : 0 < N) : ofB (-(N : Int)) = sgB true (capL N) ∧ ofL (-(N : Int)) = capL N := by
  rw [of_small h, sgB_pos (by rw [limI_length]; exact (nlen_pos_iff N).2 h0)]
  exact ⟨by unfold ofB; rw [decide_eq_true (by omega)], by unfold ofL; rw [Int.natAbs_neg, Int.natAbs_natCast]⟩
theorem of_nat {N : Nat} (h : N ≤ 9223372036854775807) : ofB (N : Int) = sgB false (capL N) ∧ ofL (N : Int) = capL N := by
  rw [of_small (by omega), sgB_plain]
  exact ⟨by unfold ofB; rw [decide_eq_false (by omega)], by unfold ofL; rw [Int.natAbs_natCast]⟩
theorem of_cons {N : Nat} (h0 : 0 < N) : [((N % 1000000000 : Nat) : Int)] ++ limI (N / 1000000000) = limI N := by
  have h1 := cons_lim (N / 1000000000) (N % 1000000000) (Nat.mod_lt _ (by omega))
  rw [Nat.div_add_mod'] at h1
  have h2 := nlen_pos h0
  show ((N % 1000000000 : Nat) : Int) :: limI (N / 1000000000) = limI N
  rw [h1, ← h2]
  rfl

set_option maxHeartbeats 1000000 in
theorem spec_bigOf (n : Int) (w : World) (h : -9223372036854775808 ≤ n ∧ n ≤ 9223372036854775807) :
    Calls Tryz.prog 125 #[.int .i64 n] w fun e w' => ∃ v, e = .returned (.agg #[.bool (ofB n), v]) ∧ OwnI w' w.heap.size v (ofL n) ∧ Below w.heap.size w w' := by
  by_cases hmin : n = -9223372036854775808
  · obtain ⟨N, hN⟩ : ∃ N, N = 9223372036854775808 := ⟨_, rfl⟩
    have HE := of_pos (N := N) (by omega) (by omega)
    have e0 : n = -(N : Int) := by rw [hmin, hN]; rfl
    rw [← e0] at HE
    rw [HE.1, HE.2]
    subst hmin
    clear HE e0 h
    have OL0 : OwnI ((w.alloc (.cells #[.bool false, .slice none 0 0] 32)).alloc (.cells #[.int .i64 854775808, .int .i64 223372036, .int .i64 9] 3)) (w.heap.size + 1) (.slice (some ⟨w.heap.size + 1, 0, none⟩) 3 3) (limI N) := by
      rw [hN, limI_min]
      have := World.ownsRow_lit (base := (w.alloc (.cells #[.bool false, .slice none 0 0] 32)).heap.size) (e := 3) (size := 1) (w.alloc (.cells #[.bool false, .slice none 0 0] 32)) #[.int .i64 854775808, .int .i64 223372036, .int .i64 9] 3 (Nat.le_refl _) (by unfold maxLen; omega) (by simp)
      simp only [World.size_alloc] at this
      exact this
    have OL := Lib.hid OL0
    clear OL0 hN
    go_enter Tryz.func125, Tryz.ntmps125
    go_wp2_with fail
    obtain ⟨W0, hW0⟩ : ∃ x, x = (w.alloc (.cells #[.bool false, .slice none 0 0] 32)).alloc (.cells #[.int .i64 854775808, .int .i64 223372036, .int .i64 9] 3) := ⟨_, rfl⟩
    have B := Lib.hid (show Below w.heap.size w W0 by rw [hW0]; exact (((Below.refl _ _).alloc (Nat.le_refl _) _).alloc (by simp) _))
    have D_r := Lib.hid (bx_at (show Bx W0 _ 32 false (.slice none 0 0) by rw [hW0]; exact (Bx.new _ _ _ _).alloc _) (show w.heap.size = _ by simp))
    have SZ := Lib.hid (show W0.heap.size = w.heap.size + 1 + 1 by rw [hW0]; simp)
    rw [← hW0] at OL
    rw [← hW0]
    clear hW0
    refine (spec_make true _ N _ _ (row_limF (x := N) (by first | exact OL.out.row | (have := OL.out.row; exact this))) (Nat.le_refl _)).mono ?_
    rintro e w1 ⟨v_r0, rfl, o_r0, bw1⟩
    obtain ⟨a_r0, c_r0, rfl⟩ := o_r0.slice
    replace D_r := Lib.hid (D_r.out.below bw1)
    have Z1 := Lib.hid bw1.size
    replace B := Lib.hid (B.out.trans (bw1.mono B.out.size))
    have O_r0 := Lib.hid o_r0
    clear o_r0
    clear bw1
    have c0_r := D_r.out.c0
    have c1_r := D_r.out.c1
    have f0_r := D_r.out.f0
    have f1_r := D_r.out.f1
    go_wp2
    obtain ⟨e1, e2⟩ := big_end (p := w.heap.size) B.out O_r0.out (by have := SZ.out; have := Z1.out; omega) (by have := SZ.out; have := Z1.out; omega) (by omega) (.bool (sgB true (capL N))) (.slice a_r0 (capL N).length c_r0)
    exact bodyPost_ret (v := .agg #[.bool (sgB true (capL N)), .slice a_r0 (capL N).length c_r0]) (by simp [results, Tryz.results125, go_sem, c0_r, c1_r]) rfl ⟨_, rfl, e1, e2⟩
  · by_cases hneg : n < 0
    · obtain ⟨N, hN⟩ := Int.eq_ofNat_of_zero_le (show 0 ≤ -n by omega)
      obtain rfl : n = -(N : Int) := by omega
      have hN1 : N ≤ 9223372036854775807 := by omega
      have hN0 : 0 < N := by omega
      have HE := of_pos (N := N) (by omega) hN0
      rw [HE.1, HE.2]
      have hmb : (-(N : Int) == -9223372036854775808) = false := by rw [beq_eq_false_iff_ne]; omega
      have T0 := Lib.hid (fun W => spec_natOf_nat N W hN1)
      clear HE hN hmin hneg
      go_enter Tryz.func125, Tryz.ntmps125
      go_wp2_with fail
      obtain ⟨W0, hW0⟩ : ∃ x, x = w.alloc (.cells #[.bool false, .slice none 0 0] 32) := ⟨_, rfl⟩
      have B := Lib.hid (show Below w.heap.size w W0 by rw [hW0]; exact ((Below.refl _ _).alloc (Nat.le_refl _) _))
      have D_r := Lib.hid (bx_at (show Bx W0 _ 32 false (.slice none 0 0) by rw [hW0]; exact Bx.new _ _ _ _) (show w.heap.size = _ by simp))
      have SZ := Lib.hid (show W0.heap.size = w.heap.size + 1 by rw [hW0]; simp)
      rw [← hW0]
      clear hW0
      refine (T0.out _).mono ?_
      rintro e w1 ⟨v_q, rfl, o_q, bw1⟩
      obtain ⟨a_q, c_q, rfl⟩ := o_q.slice
      replace D_r := Lib.hid (D_r.out.below bw1)
      have Z1 := Lib.hid bw1.size
      replace B := Lib.hid (B.out.trans (bw1.mono B.out.size))
      have O_q := Lib.hid o_q
      clear o_q
      clear bw1
      go_wp2_with fail
      refine (spec_make true _ N _ _ (row_limF O_q.out.row) (Nat.le_refl _)).mono ?_
      rintro e w2 ⟨v_r0, rfl, o_r0, bw2⟩
      obtain ⟨a_r0, c_r0, rfl⟩ := o_r0.slice
      replace O_q := Lib.hid (O_q.out.below bw2)
      replace D_r := Lib.hid (D_r.out.below bw2)
      have Z2 := Lib.hid bw2.size
      replace B := Lib.hid (B.out.trans (bw2.mono B.out.size))
      have O_r0 := Lib.hid o_r0
      clear o_r0
      clear bw2
      have c0_r := D_r.out.c0
      have c1_r := D_r.out.c1
      have f0_r := D_r.out.f0
      have f1_r := D_r.out.f1
      go_wp2
      obtain ⟨e1, e2⟩ := big_end (p := w.heap.size) B.out O_r0.out (by have := SZ.out; have := Z1.out; have := Z2.out; omega) (by have := SZ.out; have := Z1.out; have := Z2.out; omega) (by omega) (.bool (sgB true (capL N))) (.slice a_r0 (capL N).length c_r0)
      exact bodyPost_ret (v := .agg #[.bool (sgB true (capL N)), .slice a_r0 (capL N).length c_r0]) (by simp [results, Tryz.results125, go_sem, c0_r, c1_r]) rfl ⟨_, rfl, e1, e2⟩
    · obtain ⟨N, rfl⟩ := Int.eq_ofNat_of_zero_le (show 0 ≤ n by omega)
      have hN1 : N ≤ 9223372036854775807 := by omega
      have HE := of_nat (N := N) hN1
      rw [HE.1, HE.2]
      have hmb : ((N : Int) == -9223372036854775808) = false := by rw [beq_eq_false_iff_ne]; omega
      have T0 := Lib.hid (fun W => spec_natOf_nat N W hN1)
      clear HE hmin hneg
      go_enter Tryz.func125, Tryz.ntmps125
      go_wp2_with fail
      obtain ⟨W0, hW0⟩ : ∃ x, x = w.alloc (.cells #[.bool false, .slice none 0 0] 32) := ⟨_, rfl⟩
      have B := Lib.hid (show Below w.heap.size w W0 by rw [hW0]; exact ((Below.refl _ _).alloc (Nat.le_refl _) _))
      have D_r := Lib.hid (bx_at (show Bx W0 _ 32 false (.slice none 0 0) by rw [hW0]; exact Bx.new _ _ _ _) (show w.heap.size = _ by simp))
      have SZ := Lib.hid (show W0.heap.size = w.heap.size + 1 by rw [hW0]; simp)
      rw [← hW0]
      clear hW0
      refine (T0.out _).mono ?_
      rintro e w1 ⟨v_q, rfl, o_q, bw1⟩
      obtain ⟨a_q, c_q, rfl⟩ := o_q.slice
      replace D_r := Lib.hid (D_r.out.below bw1)
      have Z1 := Lib.hid bw1.size
      replace B := Lib.hid (B.out.trans (bw1.mono B.out.size))
      have O_q := Lib.hid o_q
      clear o_q
      clear bw1
      go_wp2_with fail
      refine (spec_make false _ N _ _ (row_limF O_q.out.row) (Nat.le_refl _)).mono ?_
      rintro e w2 ⟨v_r0, rfl, o_r0, bw2⟩
      obtain ⟨a_r0, c_r0, rfl⟩ := o_r0.slice
      replace O_q := Lib.hid (O_q.out.below bw2)
      replace D_r := Lib.hid (D_r.out.below bw2)
      have Z2 := Lib.hid bw2.size
      replace B := Lib.hid (B.out.trans (bw2.mono B.out.size))
      have O_r0 := Lib.hid o_r0
      clear o_r0
      clear bw2
      have c0_r := D_r.out.c0
      have c1_r := D_r.out.c1
      have f0_r := D_r.out.f0
      have f1_r := D_r.out.f1
      go_wp2
      obtain ⟨e1, e2⟩ := big_end (p := w.heap.size) B.out O_r0.out (by have := SZ.out; have := Z1.out; have := Z2.out; omega) (by have := SZ.out; have := Z1.out; have := Z2.out; omega) (by omega) (.bool (sgB false (capL N))) (.slice a_r0 (capL N).length c_r0)
      exact bodyPost_ret (v := .agg #[.bool (sgB false (capL N)), .slice a_r0 (capL N).length c_r0]) (by simp [results, Tryz.results125, go_sem, c0_r, c1_r]) rfl ⟨_, rfl, e1, e2⟩

set_option maxHeartbeats 1000000 in
theorem impl_bigOf (n : Int) (w : World) (h : -9223372036854775808 ≤ n ∧ n ≤ 9223372036854775807) :
    Calls Tryz.prog 104 #[.int .i64 n] w fun e w' => ∃ v, e = .returned (.agg #[.bool (ofB n), v]) ∧ OwnI w' w.heap.size v (ofL n) ∧ Below w.heap.size w w' := by
  by_cases hneg : n < 0
  rotate_left
  · obtain ⟨N, rfl⟩ := Int.eq_ofNat_of_zero_le (show 0 ≤ n by omega)
    have hN1 : N ≤ 9223372036854775807 := by omega
    have HE := of_nat (N := N) hN1
    rw [HE.1, HE.2]
    have T0 := Lib.hid (fun W => impl_limbsOf_nat N W hN1)
    clear HE hneg
    go_enter Tryz.func104, Tryz.ntmps104
    go_wp2_with fail
    obtain ⟨W0, hW0⟩ : ∃ x, x = w.alloc (.cells #[.bool false, .slice none 0 0] 32) := ⟨_, rfl⟩
    have B := Lib.hid (show Below w.heap.size w W0 by rw [hW0]; exact ((Below.refl _ _).alloc (Nat.le_refl _) _))
    have D_r := Lib.hid (bx_at (show Bx W0 _ 32 false (.slice none 0 0) by rw [hW0]; exact Bx.new _ _ _ _) (show w.heap.size = _ by simp))
    have SZ := Lib.hid (show W0.heap.size = w.heap.size + 1 by rw [hW0]; simp)
    rw [← hW0]
    clear hW0
    refine (T0.out _).mono ?_
    rintro e w1 ⟨v_q, rfl, o_q, bw1⟩
    obtain ⟨a_q, c_q, rfl⟩ := o_q.slice
    replace D_r := Lib.hid (D_r.out.below bw1)
    have Z1 := Lib.hid bw1.size
    replace B := Lib.hid (B.out.trans (bw1.mono B.out.size))
    have O_q := Lib.hid o_q
    clear o_q
    clear bw1
    go_wp2_with fail
    refine (impl_withSign false _ N _ O_q.out.row).mono ?_
    rintro e w2 ⟨v_r0, rfl, o_r0, bw2⟩
    obtain ⟨a_r0, c_r0, rfl⟩ := o_r0.slice
    replace O_q := Lib.hid (O_q.out.below bw2)
    replace D_r := Lib.hid (D_r.out.below bw2)
    have Z2 := Lib.hid bw2.size
    replace B := Lib.hid (B.out.trans (bw2.mono B.out.size))
    have O_r0 := Lib.hid o_r0
    clear o_r0
    clear bw2
    have c0_r := D_r.out.c0
    have c1_r := D_r.out.c1
    have f0_r := D_r.out.f0
    have f1_r := D_r.out.f1
    go_wp2
    obtain ⟨e1, e2⟩ := big_end (p := w.heap.size) B.out O_r0.out (by have := SZ.out; have := Z1.out; have := Z2.out; omega) (by have := SZ.out; have := Z1.out; have := Z2.out; omega) (by omega) (.bool (sgB false (capL N))) (.slice a_r0 (capL N).length c_r0)
    exact bodyPost_ret (v := .agg #[.bool (sgB false (capL N)), .slice a_r0 (capL N).length c_r0]) (by simp [results, Tryz.results104, go_sem, c0_r, c1_r]) rfl ⟨_, rfl, e1, e2⟩
  · obtain ⟨N, hN⟩ := Int.eq_ofNat_of_zero_le (show 0 ≤ -n by omega)
    obtain rfl : n = -(N : Int) := by omega
    have hN1 : N ≤ 9223372036854775808 := by omega
    have hN0 : 0 < N := by omega
    have HE := of_pos (N := N) hN1 hN0
    rw [HE.1, HE.2]
    have hr : (-(N : Int)).tmod 1000000000 = -((N % 1000000000 : Nat) : Int) := by rw [Int.neg_tmod]; rfl
    have hq : (-(N : Int)).tdiv 1000000000 = -((N / 1000000000 : Nat) : Int) := by rw [Int.neg_tdiv]; rfl
    have HC := Lib.hid (of_cons hN0)
    obtain ⟨d, hd⟩ : ∃ d, N % 1000000000 = d := ⟨_, rfl⟩
    obtain ⟨q, hqq⟩ : ∃ q, N / 1000000000 = q := ⟨_, rfl⟩
    have hd1 : d < 1000000000 := by omega
    have hq1 : q ≤ 9223372036 := by omega
    rw [hd] at hr HC
    rw [hqq] at hq HC
    have T0 := Lib.hid (fun W => impl_limbsOf_nat q W (by omega))
    have HQL : Hid ((limI q).length ≤ 1000) := by
      unfold Hid
      rw [limI_length, nlen_le_iff]
      refine Nat.lt_of_lt_of_le (?_ : _ < pw 3) (pw_mono (by omega))
      simp only [pw]; omega
    clear HE hd hqq hN
    go_enter Tryz.func104, Tryz.ntmps104
    go_wp2_with fail
    have OM0 := OwnI.lit1 (w.alloc (.cells #[.bool false, .slice none 0 0] 32)) (w.heap.size + 1) d (by simp)
    simp only [World.size_alloc] at OM0
    obtain ⟨W0, hW0⟩ : ∃ x, x = (w.alloc (.cells #[.bool false, .slice none 0 0] 32)).alloc (.cells #[.int .i64 d] 3) := ⟨_, rfl⟩
    have B := Lib.hid (show Below w.heap.size w W0 by rw [hW0]; exact (((Below.refl _ _).alloc (Nat.le_refl _) _).alloc (by simp) _))
    have D_r := Lib.hid (bx_at (show Bx W0 _ 32 false (.slice none 0 0) by rw [hW0]; exact (Bx.new _ _ _ _).alloc _) (show w.heap.size = _ by simp))
    have SZ := Lib.hid (show W0.heap.size = w.heap.size + 1 + 1 by rw [hW0]; simp)
    rw [← hW0] at OM0
    rw [← hW0]
    clear hW0
    have O_m := Lib.hid OM0
    clear OM0
    refine (T0.out _).mono ?_
    rintro e w1 ⟨v_q, rfl, o_q, bw1⟩
    obtain ⟨a_q, c_q, rfl⟩ := o_q.slice
    replace O_m := Lib.hid (O_m.out.below bw1)
    replace D_r := Lib.hid (D_r.out.below bw1)
    have Z1 := Lib.hid bw1.size
    replace B := Lib.hid (B.out.trans (bw1.mono B.out.size))
    have O_q := Lib.hid o_q
    clear o_q
    clear bw1
    have hln : [(d : Int)].length + (limI q).length ≤ 1099511627776 := by have := HQL.out; simp; omega
    have hBs : w.heap.size + 1 ≤ w1.heap.size := by have := SZ.out; have := Z1.out; omega
    go_wp2_with (at_builtin; refine append_ints rfl _ _ 120 Tryz.underlying120 rfl (w.heap.size + 1) _ _ [(d : Int)] (limI q) rfl O_m.out rfl O_q.out.row hln hBs ?_; intro v2 w2 h1 hg1)
    rw [HC.out] at h1
    replace D_r := Lib.hid (D_r.out.marked O_m.out (by decide) hg1)
    replace B := Lib.hid (Below.grown B.out hg1 B.out.size (fun g hg => by have := (O_m.out.lt g hg).1; omega))
    have Z2 := Lib.hid (grownBy_size hg1)
    have O_v := Lib.hid h1
    obtain ⟨a2, c2, rfl⟩ := h1.slice
    clear h1 hg1 O_m O_q
    refine (impl_withSign true _ N _ O_v.out.row).mono ?_
    rintro e w3 ⟨v_r0, rfl, o_r0, bw3⟩
    obtain ⟨a_r0, c_r0, rfl⟩ := o_r0.slice
    replace O_v := Lib.hid (O_v.out.below bw3)
    replace D_r := Lib.hid (D_r.out.below bw3)
    have Z3 := Lib.hid bw3.size
    replace B := Lib.hid (B.out.trans (bw3.mono B.out.size))
    have O_r0 := Lib.hid o_r0
    clear o_r0
    clear bw3
    have c0_r := D_r.out.c0
    have c1_r := D_r.out.c1
    have f0_r := D_r.out.f0
    have f1_r := D_r.out.f1
    go_wp2
    obtain ⟨e1, e2⟩ := big_end (p := w.heap.size) B.out O_r0.out (by have := SZ.out; have := Z1.out; have := Z2.out; have := Z3.out; omega) (by have := SZ.out; have := Z1.out; have := Z2.out; have := Z3.out; omega) (by omega) (.bool (sgB true (capL N))) (.slice a_r0 (capL N).length c_r0)
    exact bodyPost_ret (v := .agg #[.bool (sgB true (capL N)), .slice a_r0 (capL N).length c_r0]) (by simp [results, Tryz.results104, go_sem, c0_r, c1_r]) rfl ⟨_, rfl, e1, e2⟩

end Go.Proofs.YtlepgkkpopjgoaaGreat
