/- The exact law of IdentityMatrix. -/
import Derived.Test.YtojklmckjebplaaMatIid
import Derived.Test.YtojklmckjebplaaRatInt
import Derived.Test.YtojklmckjebplaaMatLens
import Derived.Test.YtojklmckjebplaaRatsIn
import Derived.Deep.CutBlock
import Derived.Deep.CutRange
import Derived.Deep.RegionHeld3
namespace Go.Proofs.Ytojklmckjebplaa
open Go.RowKit Go.WideShapes Go.ChangeShapes
set_option linter.unusedVariables false
set_option linter.unusedSimpArgs false
theorem idM_len (n : Int) : cntL (idM oF n) ≤ 100000 := by
  unfold idM
  split
  · rename_i hb
    obtain ⟨h1, h2⟩ := dimB_iff.1 hb
    obtain ⟨m, rfl⟩ : ∃ a : Nat, n = a := ⟨n.toNat, by omega⟩
    rw [Int.toNat_natCast]
    have hm : m ≤ 24 := by omega
    have key : ∀ i, ∀ f ∈ idL oF m i, f = zF ∨ f = oF := by
      intro i
      induction i with
      | zero => intro f hf; exact .inl (List.mem_replicate.1 hf).2
      | succ i ih =>
        intro f hf
        rcases List.mem_or_eq_of_mem_set hf with h | h
        · exact ih f h
        · exact .inr h
    refine cntM_le (by rw [idL_len]; exact Nat.mul_le_mul hm hm) (fun f hf => ?_)
    rcases key m f hf with rfl | rfl
    · exact ⟨by simp [zF], by simp [zF]⟩
    · exact ⟨by simp [oF], by simp [oF]⟩
  · exact cnt_nil
theorem spec_oneF (w : World) : Calls Try.prog 63 #[.int .i64 1] w fun e w' => ∃ x y, e = .returned (.agg #[.bool oF.neg, x, y]) ∧ OwnR w' w.heap.size x oF.mag y oF.den ∧ Below w.heap.size w w' := by
  have h := spec_ratFromInt 1 w (by omega)
  rw [of_one.1, of_one.2] at h
  exact h
def idC (n : Int) : Int := idN n
theorem spec_idL (n : Int) (w : World) (hn : -9223372036854775808 ≤ n ∧ n ≤ 9223372036854775807) :
    Calls Try.prog 34 #[.int .i64 n] w fun e w' => ∃ u xs, e = .returned (.agg #[.int .i64 (idN n), .int .i64 (idC n), u]) ∧ OwnV w' w.heap.size u (idM oF n) xs ∧ Below w.heap.size w w' := spec_identityMatrix (fun w => spec_zeroF w) oF (fun w => spec_oneF w) n w hn
theorem impl_idL (n : Int) (w : World) (hn : -9223372036854775808 ≤ n ∧ n ≤ 9223372036854775807) :
    Calls Try.prog 35 #[.int .i64 n] w fun e w' => ∃ u xs, e = .returned (.agg #[.int .i64 (idN n), .int .i64 (idC n), u]) ∧ OwnV w' w.heap.size u (idM oF n) xs ∧ Below w.heap.size w w' := impl_identityMatrix n w
set_option maxRecDepth 100000
set_option maxHeartbeats 4000000 in
theorem law_identityMatrix (W : World) (n0 : Int) (hn0 : (Lit.int .i64 n0).wf = true) :
    Calls Try.prog 6 #[.int .i64 n0] W fun e w' => e = .returned (.bool true) ∧ Below W.heap.size W w' := by
  have hx0 : -9223372036854775808 ≤ n0 ∧ n0 ≤ 9223372036854775807 := by simpa [Lit.wf, IntKind.min, IntKind.max, IntKind.signed, IntKind.bits] using hn0
  have HX0 := Lib.hid hx0
  clear hx0 hn0
  have hLEN := idM_len n0
  obtain ⟨ZL, hZL⟩ : ∃ x, x = idM oF n0 := ⟨_, rfl⟩
  have HZL := Lib.hid hZL
  rw [← hZL] at hLEN
  have HA := Lib.hid (show cntL ZL ≤ 100000 from hLEN)
  have HAN := Lib.hid (show ZL.length ≤ 1048576 by have := HA.out; unfold cntL at this; omega)
  clear hLEN hZL
  obtain ⟨ZR, hZR⟩ : ∃ x, x = idN n0 := ⟨_, rfl⟩
  have HZR := Lib.hid hZR
  obtain ⟨ZC, hZC⟩ : ∃ x, x = idC n0 := ⟨_, rfl⟩
  have HZC := Lib.hid hZC
  clear hZR hZC
  go_enter Try.func6, Try.ntmps6
  go_wp2_with fail
  have hc9 := spec_idL n0 W HX0.out
  rw [← HZL.out, ← HZR.out, ← HZC.out] at hc9
  refine (hc9).mono ?_
  rintro e w1 ⟨v_w0, x_w0, rfl, o_w0, bw1⟩
  obtain ⟨a_w0, c_w0, rfl⟩ := o_w0.slice
  have B := Lib.hid bw1
  have z_w1 := Lib.hid bw1.size
  have O_w0 := Lib.hid o_w0
  have L_w0 := Lib.hid o_w0.lt
  clear o_w0
  clear bw1
  have hz := B.out.size
  go_wp2_with fail
  clear hz
  obtain ⟨w2, hW0⟩ : ∃ x, x = w1.alloc (.cells #[.int .i64 ZR, .int .i64 ZC, .slice a_w0 ZL.length c_w0] 25) := ⟨_, rfl⟩
  replace O_w0 := Lib.hid (show OwnV w2 _ _ _ _ by rw [hW0]; exact O_w0.out.alloc _)
  have D_w0 := Lib.hid (show B3 w2 w1.heap.size 25 (.int .i64 ZR) (.int .i64 ZC) (.slice a_w0 ZL.length c_w0) by rw [hW0]; exact B3.new _ _ _ _ _)
  replace B := Lib.hid (show Below W.heap.size W w2 by rw [hW0]; exact B.out.alloc B.out.size _)
  have z_w2 := Lib.hid (show w2.heap.size = w1.heap.size + 1 by rw [hW0]; simp)
  rw [← hW0]
  clear hW0
  have hc9 := impl_idL n0 w2 HX0.out
  rw [← HZL.out, ← HZR.out, ← HZC.out] at hc9
  refine (hc9).mono ?_
  rintro e w3 ⟨v_g0, x_g0, rfl, o_g0, bw3⟩
  obtain ⟨a_g0, c_g0, rfl⟩ := o_g0.slice
  replace O_w0 := Lib.hid (O_w0.out.below bw3)
  replace D_w0 := Lib.hid (D_w0.out.below bw3)
  replace B := Lib.hid (B.out.trans (bw3.mono B.out.size))
  have z_w3 := Lib.hid bw3.size
  have O_g0 := Lib.hid o_g0
  have L_g0 := Lib.hid o_g0.lt
  clear o_g0
  clear bw3
  have c0_w0 := D_w0.out.c0
  have c1_w0 := D_w0.out.c1
  have c2_w0 := D_w0.out.c2
  have lt_w0 := D_w0.out.lt
  have hz := B.out.size
  go_wp2_with fail
  clear c0_w0 c1_w0 c2_w0 lt_w0
  clear hz
  obtain ⟨w4, hW0⟩ : ∃ x, x = w3.alloc (.cells #[.int .i64 ZR, .int .i64 ZC, .slice a_g0 ZL.length c_g0] 25) := ⟨_, rfl⟩
  replace O_w0 := Lib.hid (show OwnV w4 _ _ _ _ by rw [hW0]; exact O_w0.out.alloc _)
  replace O_g0 := Lib.hid (show OwnV w4 _ _ _ _ by rw [hW0]; exact O_g0.out.alloc _)
  replace D_w0 := Lib.hid (show B3 w4 _ _ _ _ _ by rw [hW0]; exact D_w0.out.alloc _)
  have D_g0 := Lib.hid (show B3 w4 w3.heap.size 25 (.int .i64 ZR) (.int .i64 ZC) (.slice a_g0 ZL.length c_g0) by rw [hW0]; exact B3.new _ _ _ _ _)
  replace B := Lib.hid (show Below W.heap.size W w4 by rw [hW0]; exact B.out.alloc B.out.size _)
  have z_w4 := Lib.hid (show w4.heap.size = w3.heap.size + 1 by rw [hW0]; simp)
  rw [← hW0]
  clear hW0
  refine (eq_mat _ _ _ _ _ _ O_g0.out.rats O_w0.out.rats HAN.out).mono ?_
  rintro e w5 ⟨rfl, bw5⟩
  replace O_w0 := Lib.hid (O_w0.out.below bw5)
  replace O_g0 := Lib.hid (O_g0.out.below bw5)
  replace D_w0 := Lib.hid (D_w0.out.below bw5)
  replace D_g0 := Lib.hid (D_g0.out.below bw5)
  replace B := Lib.hid (B.out.trans (bw5.mono B.out.size))
  have z_w5 := Lib.hid bw5.size
  clear bw5
  have c0_g0 := D_g0.out.c0
  have c1_g0 := D_g0.out.c1
  have c2_g0 := D_g0.out.c2
  go_wp2_with fail
  clear c0_g0 c1_g0 c2_g0
  refine (mark_mat _ _ _ (1) _ (ZL) _ _ _ (by simp) O_g0.out (by have := HA.out; skip; omega) (by have := HAN.out; omega)).mono ?_
  rintro e w6 ⟨rfl, om, bk⟩
  replace O_w0 := Lib.hid (O_w0.out.kept bk (fun k hk hs => by have := L_w0.out k hk; have := L_g0.out k hs; have := z_w1.out; have := z_w2.out; have := z_w3.out; have := z_w4.out; have := z_w5.out; omega))
  replace D_w0 := Lib.hid (B3.keptK D_w0.out bk (fun hs => by have := L_g0.out _ hs; have := z_w1.out; have := z_w2.out; have := z_w3.out; have := z_w4.out; have := z_w5.out; omega))
  replace D_g0 := Lib.hid (B3.keptK D_g0.out bk (fun hs => by have := L_g0.out _ hs; have := z_w1.out; have := z_w2.out; have := z_w3.out; have := z_w4.out; have := z_w5.out; omega))
  replace B := Lib.hid (below_kept B.out bk B.out.size (fun k hk => by have := L_g0.out k hk; have := z_w1.out; have := z_w2.out; have := z_w3.out; have := z_w4.out; have := z_w5.out; have := B.out.size; omega))
  have z_w6 := Lib.hid bk.size
  replace O_g0 := Lib.hid om
  clear om bk
  have c0_g0 := D_g0.out.c0
  have c1_g0 := D_g0.out.c1
  have c2_g0 := D_g0.out.c2
  go_wp2_with fail
  clear c0_g0 c1_g0 c2_g0
  refine (held_mat _ _ _ (1) _ ZL _ (by simp) O_g0.out.rats (by have := HA.out; omega)).mono ?_
  rintro e w7 ⟨rfl, bw7⟩
  replace O_w0 := Lib.hid (O_w0.out.below bw7)
  replace O_g0 := Lib.hid (O_g0.out.below bw7)
  replace D_w0 := Lib.hid (D_w0.out.below bw7)
  replace D_g0 := Lib.hid (D_g0.out.below bw7)
  replace B := Lib.hid (B.out.trans (bw7.mono B.out.size))
  have z_w7 := Lib.hid bw7.size
  clear bw7
  go_wp2_with fail
  have hc9 := impl_idL n0 w7 HX0.out
  rw [← HZL.out, ← HZR.out, ← HZC.out] at hc9
  refine (hc9).mono ?_
  rintro e w8 ⟨v_h0, x_h0, rfl, o_h0, bw8⟩
  obtain ⟨a_h0, c_h0, rfl⟩ := o_h0.slice
  replace O_w0 := Lib.hid (O_w0.out.below bw8)
  replace O_g0 := Lib.hid (O_g0.out.below bw8)
  replace D_w0 := Lib.hid (D_w0.out.below bw8)
  replace D_g0 := Lib.hid (D_g0.out.below bw8)
  replace B := Lib.hid (B.out.trans (bw8.mono B.out.size))
  have z_w8 := Lib.hid bw8.size
  have O_h0 := Lib.hid o_h0
  have L_h0 := Lib.hid o_h0.lt
  clear o_h0
  clear bw8
  have c0_w0 := D_w0.out.c0
  have c1_w0 := D_w0.out.c1
  have c2_w0 := D_w0.out.c2
  have lt_w0 := D_w0.out.lt
  have hz := B.out.size
  go_wp2_with fail
  clear c0_w0 c1_w0 c2_w0 lt_w0
  clear hz
  obtain ⟨w9, hW0⟩ : ∃ x, x = w8.alloc (.cells #[.int .i64 ZR, .int .i64 ZC, .slice a_h0 ZL.length c_h0] 25) := ⟨_, rfl⟩
  replace O_w0 := Lib.hid (show OwnV w9 _ _ _ _ by rw [hW0]; exact O_w0.out.alloc _)
  replace O_g0 := Lib.hid (show OwnV w9 _ _ _ _ by rw [hW0]; exact O_g0.out.alloc _)
  replace O_h0 := Lib.hid (show OwnV w9 _ _ _ _ by rw [hW0]; exact O_h0.out.alloc _)
  replace D_w0 := Lib.hid (show B3 w9 _ _ _ _ _ by rw [hW0]; exact D_w0.out.alloc _)
  replace D_g0 := Lib.hid (show B3 w9 _ _ _ _ _ by rw [hW0]; exact D_g0.out.alloc _)
  have D_h0 := Lib.hid (show B3 w9 w8.heap.size 25 (.int .i64 ZR) (.int .i64 ZC) (.slice a_h0 ZL.length c_h0) by rw [hW0]; exact B3.new _ _ _ _ _)
  replace B := Lib.hid (show Below W.heap.size W w9 by rw [hW0]; exact B.out.alloc B.out.size _)
  have z_w9 := Lib.hid (show w9.heap.size = w8.heap.size + 1 by rw [hW0]; simp)
  rw [← hW0]
  clear hW0
  refine (eq_mat _ _ _ _ _ _ O_h0.out.rats O_w0.out.rats HAN.out).mono ?_
  rintro e w10 ⟨rfl, bw10⟩
  replace O_w0 := Lib.hid (O_w0.out.below bw10)
  replace O_g0 := Lib.hid (O_g0.out.below bw10)
  replace O_h0 := Lib.hid (O_h0.out.below bw10)
  replace D_w0 := Lib.hid (D_w0.out.below bw10)
  replace D_g0 := Lib.hid (D_g0.out.below bw10)
  replace D_h0 := Lib.hid (D_h0.out.below bw10)
  replace B := Lib.hid (B.out.trans (bw10.mono B.out.size))
  have z_w10 := Lib.hid bw10.size
  clear bw10
  have c0_g0 := D_g0.out.c0
  have c1_g0 := D_g0.out.c1
  have c2_g0 := D_g0.out.c2
  go_wp2_with fail
  clear c0_g0 c1_g0 c2_g0
  refine (held_mat _ _ _ (1) _ ZL _ (by simp) O_g0.out.rats (by have := HA.out; omega)).mono ?_
  rintro e w11 ⟨rfl, bw11⟩
  replace O_w0 := Lib.hid (O_w0.out.below bw11)
  replace O_g0 := Lib.hid (O_g0.out.below bw11)
  replace O_h0 := Lib.hid (O_h0.out.below bw11)
  replace D_w0 := Lib.hid (D_w0.out.below bw11)
  replace D_g0 := Lib.hid (D_g0.out.below bw11)
  replace D_h0 := Lib.hid (D_h0.out.below bw11)
  replace B := Lib.hid (B.out.trans (bw11.mono B.out.size))
  have z_w11 := Lib.hid bw11.size
  clear bw11
  go_wp2
  go_ret
  exact ⟨rfl, B.out⟩


end Go.Proofs.Ytojklmckjebplaa
