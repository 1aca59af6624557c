/- InnerProduct of the model and of the program. -/
import Derived.Test.YtojklmckjebplaaVecComb
import Derived.Test.YtojklmckjebplaaVecUnit
import Derived.Deep.RegionWith
namespace Go.Proofs.Ytojklmckjebplaa
open Go.RowKit Go.WideShapes Go.ChangeShapes
set_option linter.unusedVariables false
set_option linter.unusedSimpArgs false
def Good (f : Fr) : Prop := f = Fr.zero ∨ okF f = true
def sumX (P : List Fr) : Fr := P.foldl addX zF
theorem sumX_take {P : List Fr} {k : Nat} (hk : k < P.length) : sumX (P.take (k + 1)) = addX (sumX (P.take k)) (P[k]'hk) := by
  unfold sumX
  rw [List.take_succ_eq_append_getElem hk, List.foldl_append]; rfl
theorem fold_zero : ∀ P : List Fr, P.foldl addX Fr.zero = Fr.zero
  | [] => rfl
  | f :: P => by rw [List.foldl_cons, add_zeroL, fold_zero P]
theorem sumX_zero {P : List Fr} {k : Nat} (h : sumX (P.take k) = Fr.zero) : sumX P = Fr.zero := by
  have e : sumX P = (P.drop k).foldl addX (sumX (P.take k)) := by
    unfold sumX
    rw [← List.foldl_append, List.take_append_drop]
  rw [e, h, fold_zero]
theorem good_add {s p : Fr} (h : Good s) (h' : Good p) : Good (addX s p) := by
  rcases h with rfl | h
  · exact .inl (add_zeroL _)
  · rcases h' with rfl | h'
    · exact .inl (add_zeroR _)
    · exact ok_add h h'
theorem good_small {f : Fr} (h : Good f) : Small f := by
  rcases h with rfl | h
  · exact small_zero
  · exact small_ok h
theorem good_zF : Good zF := .inr ok_zF
theorem good_bad {f : Fr} (h : Good f) (hb : badF f = true) : f = Fr.zero := bad_of h hb
theorem sumX_badAt {P : List Fr} {k : Nat} (hk : k < P.length) (h : P[k]'hk = Fr.zero) : sumX P = Fr.zero := sumX_zero (k := k + 1) (by rw [sumX_take hk, h, add_zeroR])
def innV (A B : List Fr) : Fr := sumX (zipF mulX A B)
def innF (A B : List Fr) : Fr := if pairOk A B then innV A B else Fr.zero
def innB (A B : List Fr) : Bool := pairOk A B && !badF (innV A B)
theorem inn_no {A B : List Fr} (h : pairOk A B = false) : innF A B = Fr.zero ∧ innB A B = false := by unfold innF innB; rw [h]; exact ⟨rfl, rfl⟩
theorem inn_yes {A B : List Fr} (h : pairOk A B = true) : innF A B = innV A B ∧ innB A B = !badF (innV A B) := by unfold innF innB; rw [h]; exact ⟨rfl, rfl⟩
theorem pair_elem {A B : List Fr} (h : pairOk A B = true) : ∀ k (h0 : k < A.length) (h1 : k < B.length), okF (A[k]'h0) = true ∧ okF (B[k]'h1) = true := by
  obtain ⟨q0, q1, _⟩ := pair_parts h
  exact fun k h0 h1 => ⟨(vec_parts q0).2 k h0, (vec_parts q1).2 k h1⟩
theorem inn_unfine {A B : List Fr} (h : pairOk A B = true) (hf : fineV (zipF mulX A B) = false) : innV A B = Fr.zero := by
  unfold fineV at hf
  rw [List.all_eq_false] at hf
  obtain ⟨x, hx, hb⟩ := hf
  obtain ⟨i, hi, rfl⟩ := List.getElem_of_mem hx
  have h0 : i < A.length := by unfold zipF at hi; simp at hi; omega
  have h1 : i < B.length := by unfold zipF at hi; simp at hi; omega
  have hb' : badF ((zipF mulX A B)[i]'hi) = true := by simpa using hb
  refine sumX_badAt hi ?_
  rw [zip_at h0 h1] at hb' ⊢
  exact bad_of (ok_mul (pair_elem h i h0 h1).1 (pair_elem h i h0 h1).2) hb'
theorem add_len' (P : List Fr) (h : P ≠ []) : (sumX P).mag.length ≤ 24 ∧ (sumX P).den.length ≤ 24 := by
  obtain ⟨Q, x, rfl⟩ : ∃ Q x, P = Q ++ [x] := ⟨P.dropLast, P.getLast h, (List.dropLast_concat_getLast h).symm⟩
  unfold sumX
  rw [List.foldl_append]
  exact add_len _ _
theorem sumX_len (P : List Fr) : (sumX P).mag.length ≤ 24 ∧ (sumX P).den.length ≤ 24 := by
  by_cases h : P = []
  · subst h; exact ⟨by simp [sumX, zF], by simp [sumX, zF]⟩
  · exact add_len' P h
theorem innF_len (A B : List Fr) : (innF A B).mag.length ≤ 1000 ∧ (innF A B).den.length ≤ 1000 := by
  unfold innF
  split
  · have := sumX_len (zipF mulX A B); unfold innV; omega
  · exact ⟨by simp [Fr.zero], by simp [Fr.zero]⟩

set_option maxRecDepth 100000 in
set_option maxHeartbeats 2000000 in
theorem impl_sumOf (v1 : Value) (L1 : List Fr) (w : World) (h1 : RatsAt w v1 L1) (hl : L1.length ≤ 24) (E1 : ∀ k (hk : k < L1.length), okF (L1[k]'hk) = true) :
    Calls Try.prog 86 #[v1] w fun r w' => ∃ v dd, r = .returned (.tuple #[.agg #[.bool (sumX L1).neg, v, dd], .bool (!badF (sumX L1))]) ∧ OwnR w' w.heap.size v (sumX L1).mag dd (sumX L1).den ∧ Below w.heap.size w w' := by
  obtain ⟨a', cap', rfl, hc', hm', hr'⟩ := h1
  have R := Lib.hid hr'
  have E1 := Lib.hid E1
  clear hr'
  unfold maxLen at hm'
  obtain ⟨n, hnn⟩ : ∃ n, L1.length = n := ⟨_, rfl⟩
  rw [hnn] at hc' hl ⊢
  have HN := Lib.hid hnn
  clear hnn
  obtain ⟨ZF, hZF⟩ : ∃ b, b = sumX L1 := ⟨_, rfl⟩
  obtain ⟨ZB, hZB⟩ : ∃ b, b = !badF (sumX L1) := ⟨_, rfl⟩
  rw [← hZB, ← hZF]
  have HZ := Lib.hid (And.intro hZF hZB)
  clear hZF hZB
  go_enter Try.func86, Try.ntmps86
  go_wp2_with fail
  obtain ⟨W0, hW0⟩ : ∃ x, x = (w.alloc (.cells #[.bool false, .slice none 0 0, .slice none 0 0] 42)) := ⟨_, rfl⟩
  have B := Lib.hid (show Below w.heap.size w W0 by rw [hW0]; exact ((Below.refl _ _).alloc (Nat.le_refl _) _))
  have D_r := Lib.hid (rx_at (show Rx W0 _ 42 (false) (.slice none 0 0) (.slice none 0 0) by rw [hW0]; exact Rx.new _ _ _ _ _) (show w.heap.size = _ by simp))
  have SZ := Lib.hid (show W0.heap.size = w.heap.size + 1 by rw [hW0]; simp)
  rw [← hW0]
  clear hW0
  have BB := Lib.hid (Below.refl W0.heap.size W0)
  have T := impl_ratFromInt 0 W0 (by omega)
  rw [of_zero.1, of_zero.2] at T
  refine T.mono ?_
  rintro e w1 ⟨v_q, d_q, rfl, u_q, b1⟩
  obtain ⟨a_q, c_q, e_q, f_q, hx, hy⟩ := u_q.slices
  subst hx hy
  have hps := b1.size
  go_wp2_with fail
  obtain ⟨W2, hW2⟩ : ∃ x, x = w1.alloc (.cells #[.bool false, .slice a_q ([] : List Int).length c_q, .slice e_q [(1 : Int)].length f_q] 42) := ⟨_, rfl⟩
  obtain ⟨ps, hp⟩ : ∃ x, x = w1.heap.size := ⟨_, rfl⟩
  have M0 := Lib.hid (show Rx W2 ps 42 (sumX (L1.take 0)).neg (.slice a_q (sumX (L1.take 0)).mag.length c_q) (.slice e_q (sumX (L1.take 0)).den.length f_q) by rw [hW2, hp]; exact Rx.new _ _ _ _ _)
  have U0 := Lib.hid (show OwnR W2 W0.heap.size (.slice a_q (sumX (L1.take 0)).mag.length c_q) (sumX (L1.take 0)).mag (.slice e_q (sumX (L1.take 0)).den.length f_q) (sumX (L1.take 0)).den by rw [hW2]; exact u_q.alloc _)
  have B2 := Lib.hid (show Below W0.heap.size W0 W2 by rw [hW2]; exact b1.alloc b1.size _)
  simp only [List.length_nil, List.length_cons, Nat.zero_add] at hW2
  rw [← hW2, ← hp]
  have PS := Lib.hid (show W0.heap.size ≤ ps by rw [hp]; exact hps)
  clear hW2 hp u_q b1 T hps BB
  go_loopw [10] (fun iv wr => ∃ (k : Nat), k ≤ n ∧ iv = .int .i64 k ∧ ∃ (a_s : Option Addr) (c_s : Nat) (e_s : Option Addr) (f_s : Nat), Hid (Rx wr ps 42 (sumX (L1.take k)).neg (.slice a_s (sumX (L1.take k)).mag.length c_s) (.slice e_s (sumX (L1.take k)).den.length f_s)) ∧ Hid (OwnR wr W0.heap.size (.slice a_s (sumX (L1.take k)).mag.length c_s) (sumX (L1.take k)).mag (.slice e_s (sumX (L1.take k)).den.length f_s) (sumX (L1.take k)).den) ∧ Hid (okF (sumX (L1.take k)) = true) ∧ Hid (Below W0.heap.size W0 wr)) (fun iv _ => n - (intOf iv).toNat)
  case atStart => exact ⟨0, Nat.zero_le _, rfl, _, _, _, _, M0, U0, Lib.hid ok_zF, B2⟩
  case round =>
    obtain ⟨k, hk, rfl, a_s, c_s, e_s, f_s, MS, US, HS, HBk⟩ := hrel
    obtain ⟨S, hS⟩ : ∃ x, x = sumX (L1.take k) := ⟨_, rfl⟩
    rw [← hS] at MS US HS
    have HSk := Lib.hid hS
    clear hS
    by_cases hlt : k < n
    · have hlt1 : k < L1.length := by rw [HN.out]; exact hlt
      have HW := Lib.hid (B.out.trans (HBk.out.mono B.out.size))
      obtain ⟨b', o', x', y', rfl, g0, g1, g2, hss⟩ := R.out k hlt1
      have f0 := (HW.out.cell (World.block_lt_of_cell? w _ g0)).trans g0
      have f1 := (HW.out.cell (World.block_lt_of_cell? w _ g1)).trans g1
      have f2 := (HW.out.cell (World.block_lt_of_cell? w _ g2)).trans g2
      have SS := Lib.hid (hss.below HW.out)
      obtain ⟨a3, r3, a4, r4, rfl, rfl, hz3, hz4⟩ := rowR_len hss
      clear g0 g1 g2 R hss
      obtain ⟨f, hf⟩ : ∃ x, x = L1[k]'hlt1 := ⟨_, rfl⟩
      have EF := Lib.hid (show okF f = true by rw [hf]; exact E1.out k hlt1)
      have HF := Lib.hid (show sumX (L1.take (k + 1)) = addX S f by rw [hf, HSk.out]; exact sumX_take hlt1)
      rw [← hf] at f0 f1 f2 SS hz3 hz4
      clear hf
      obtain ⟨wb, hwb⟩ : ∃ x, x = wr.alloc (.cells #[.bool f.neg, .slice a3 f.mag.length r3, .slice a4 f.den.length r4] 42) := ⟨_, rfl⟩
      have bW : Below wr.heap.size wr wb := by rw [hwb]; exact (Below.refl wr.heap.size wr).alloc (Nat.le_refl _) _
      have DS := MS.out.below bW
      have m0 := DS.c0
      have m1 := DS.c1
      have m2 := DS.c2
      rw [hwb] at m0 m1 m2
      go_wp2_with fail
      rw [← hwb]
      refine (impl_plusF S f HS.out EF.out _ _ _ _ wb (US.out.row.below bW) (SS.out.below bW)).mono ?_
      rintro e w_r ⟨x_r, y_r, rfl, o_r, bb_r⟩
      have HGd := Lib.hid (show Good (addX S f) from ok_add HS.out EF.out)
      obtain ⟨T, hT⟩ : ∃ x, x = addX S f := ⟨_, rfl⟩
      rw [← hT] at o_r HF HGd ⊢
      clear hT
      obtain ⟨a_r, c_r, e_r, f_r, rfl, rfl⟩ := o_r.slices
      have DT := DS.below bb_r
      have s0 := DT.c0
      have s1 := DT.c1
      have s2 := DT.c2
      have t0 := DT.f 0
      have t1 := DT.f 1
      have t2 := DT.f 2
      have D8 := Rx.set3 (b' := T.neg) (v' := .slice a_r T.mag.length c_r) (d' := .slice e_r T.den.length f_r) DT
      have O8 := (OwnR.base (B' := W0.heap.size) o_r (Nat.le_trans HBk.out.size bW.size)).set3 (b' := T.neg) DT (by decide) (.slice a_r T.mag.length c_r) (.slice e_r T.den.length f_r)
      have BBr := ((HBk.out.trans (bW.mono HBk.out.size)).trans (bb_r.mono (Nat.le_trans HBk.out.size bW.size)))
      have B8 := ((BBr.setCell (p := ⟨ps, 0, none⟩) PS.out (.bool T.neg)).setCell (p := ⟨ps, 1, none⟩) PS.out (.slice a_r T.mag.length c_r)).setCell (p := ⟨ps, 2, none⟩) PS.out (.slice e_r T.den.length f_r)
      clear hwb m0 m1 m2 DS f0 f1 f2 MS US
      obtain ⟨w3, hw3⟩ : ∃ x, x = ((w_r.setCell ⟨ps, 0, none⟩ (.bool T.neg)).setCell ⟨ps, 1, none⟩ (.slice a_r T.mag.length c_r)).setCell ⟨ps, 2, none⟩ (.slice e_r T.den.length f_r) := ⟨_, rfl⟩
      have n0 := D8.c0
      have n1 := D8.c1
      have n2 := D8.c2
      go_wp2_with fail
      rw [← hw3] at D8 O8 B8
      rw [← hw3]
      have D9 := Lib.hid D8
      have O9 := Lib.hid O8
      have B9 := Lib.hid B8
      clear hw3 D8 O8 B8 DT s0 s1 s2 t0 t1 t2 n0 n1 n2 o_r BBr
      have V := impl_tooLarge T.neg _ _ _ _ w3 O9.out.row
      cases hq : badF T with
      | false =>
        have hq2 : decide (T.den.length = 0) = false := hq
        rw [hq2] at V
        refine V.mono ?_
        rintro e w4 ⟨rfl, b4⟩
        have D5 := Lib.hid (show Rx w4 ps 42 (sumX (L1.take (k + 1))).neg (.slice a_r (sumX (L1.take (k + 1))).mag.length c_r) (.slice e_r (sumX (L1.take (k + 1))).den.length f_r) by rw [HF.out]; exact D9.out.below b4)
        have O5 := Lib.hid (show OwnR w4 W0.heap.size (.slice a_r (sumX (L1.take (k + 1))).mag.length c_r) (sumX (L1.take (k + 1))).mag (.slice e_r (sumX (L1.take (k + 1))).den.length f_r) (sumX (L1.take (k + 1))).den by rw [HF.out]; exact O9.out.below b4)
        have B5 := Lib.hid (B9.out.trans (b4.mono B9.out.size))
        have S5 := Lib.hid (show okF (sumX (L1.take (k + 1))) = true by rw [HF.out]; exact ok_of HGd.out hq)
        clear b4 V
        go_wp2_with fail
        exact ⟨⟨k + 1, by omega, by go_num, _, _, _, _, D5, O5, S5, B5⟩, by simp [intOf]; omega⟩
      | true =>
        have hq2 : decide (T.den.length = 0) = true := hq
        have hZ : sumX L1 = Fr.zero := sumX_zero (k := k + 1) (by rw [HF.out]; exact good_bad HGd.out hq)
        obtain rfl : ZF = Fr.zero := HZ.out.1.trans hZ
        obtain rfl : ZB = false := HZ.out.2.trans (by rw [hZ]; rfl)
        rw [hq2] at V
        refine V.mono ?_
        rintro e w4 ⟨rfl, b4⟩
        have B5 := B9.out.trans (b4.mono B9.out.size)
        have DR := D_r.out.below B5
        have c0_r := DR.c0
        have c1_r := DR.c1
        have c2_r := DR.c2
        have f0_r := DR.f 0
        have f1_r := DR.f 1
        have f2_r := DR.f 2
        obtain ⟨e1, e2⟩ := rat_end (b' := false) (B.out.trans (B5.mono B.out.size)) DR (OwnR.nil _ W0.heap.size) (by decide) (by have := SZ.out; omega) (by omega) (.slice none 0 0) (.slice none 0 0)
        have D8 := Rx.set3 (b' := false) (v' := .slice none 0 0) (d' := .slice none 0 0) DR
        have hc0 := D8.c0; have hc1 := D8.c1; have hc2 := D8.c2
        go_wp2
        exact bodyPost_ret (v := .tuple #[.agg #[.bool false, .slice none 0 0, .slice none 0 0], .bool false]) (by simp [results, Try.results86, go_sem, hc0, hc1, hc2]) rfl ⟨_, _, rfl, e1, e2⟩
    · obtain rfl : k = n := by omega
      have hT1 : L1.take k = L1 := by rw [← HN.out, List.take_length]
      have hE : S = sumX L1 := by rw [HSk.out, hT1]
      obtain rfl : ZF = S := HZ.out.1.trans hE.symm
      obtain rfl : ZB = true := HZ.out.2.trans (by rw [← hE, bad_ok HS.out]; rfl)
      clear hE
      have DR := D_r.out.below HBk.out
      have c0_r := DR.c0
      have c1_r := DR.c1
      have c2_r := DR.c2
      have f0_r := DR.f 0
      have f1_r := DR.f 1
      have f2_r := DR.f 2
      have m0 := MS.out.c0
      have m1 := MS.out.c1
      have m2 := MS.out.c2
      obtain ⟨e1, e2⟩ := rat_end (b' := ZF.neg) (B.out.trans (HBk.out.mono B.out.size)) DR US.out (by decide) (by have := SZ.out; omega) (by omega) (.slice a_s ZF.mag.length c_s) (.slice e_s ZF.den.length f_s)
      have D8 := Rx.set3 (b' := ZF.neg) (v' := .slice a_s ZF.mag.length c_s) (d' := .slice e_s ZF.den.length f_s) DR
      have hc0 := D8.c0; have hc1 := D8.c1; have hc2 := D8.c2
      go_wp2
      exact bodyPost_ret (v := .tuple #[.agg #[.bool ZF.neg, .slice a_s ZF.mag.length c_s, .slice e_s ZF.den.length f_s], .bool true]) (by simp [results, Try.results86, go_sem, hc0, hc1, hc2]) rfl ⟨_, _, rfl, e1, e2⟩

end Go.Proofs.Ytojklmckjebplaa
