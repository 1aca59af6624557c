/- The exact law of UnitVector. -/
import Derived.Test.YtdajldenjeanhaaVecUnit
import Derived.Test.YtdajldenjeanhaaRatsIn
import Derived.Deep.CutBlock
import Derived.Deep.CutRange
import Derived.Deep.RegionHeld3
namespace Go.Proofs.Ytdajldenjeanhaa
open Go.RowKit Go.WideShapes Go.ChangeShapes
set_option linter.unusedVariables false
set_option linter.unusedSimpArgs false
theorem szL_le {L : List Fr} (h : ∀ f ∈ L, f.mag.length ≤ 1000 ∧ f.den.length ≤ 1000) : szL L ≤ L.length * 2000 := by
  induction L with
  | nil => simp [szL]
  | cons f L ih =>
    have h1 := h f (List.mem_cons_self ..)
    have h2 := ih (fun g hg => h g (List.mem_cons_of_mem _ hg))
    simp only [szL, List.length_cons]; omega
theorem cntL_le {L : List Fr} (h0 : L.length ≤ 24) (h : ∀ f ∈ L, f.mag.length ≤ 1000 ∧ f.den.length ≤ 1000) : cntL L ≤ 100000 := by
  have := szL_le h
  unfold cntL; omega
theorem unitL_len (n k : Int) : cntL (unitL n k) ≤ 100000 := by
  unfold unitL
  split
  · refine cntL_le (by rw [List.length_set, List.length_replicate]; omega) (fun f hf => ?_)
    rcases List.mem_or_eq_of_mem_set hf with hf | rfl
    · rw [(List.mem_replicate.1 hf).2]; exact ⟨by simp [zF], by simp [zF]⟩
    · exact ⟨by simp [oF], by simp [oF]⟩
  · exact cntL_le (by simp) (fun f hf => by simp at hf)
set_option maxHeartbeats 2000000 in
theorem law_unitVector (W : World) (n0 : Int) (hn0 : (Lit.int .i64 n0).wf = true) (n1 : Int) (hn1 : (Lit.int .i64 n1).wf = true) :
    Calls Try.prog 5 #[.int .i64 n0, .int .i64 n1] W fun e w' => e = .returned (.bool true) ∧ Below W.heap.size W w' := by
  have hx0 : -9223372036854775808 ≤ n0 ∧ n0 ≤ 9223372036854775807 := by simpa [Lit.wf, IntKind.min, IntKind.max, IntKind.signed, IntKind.bits] using hn0
  have HX0 := Lib.hid hx0
  clear hx0 hn0
  have hx1 : -9223372036854775808 ≤ n1 ∧ n1 ≤ 9223372036854775807 := by simpa [Lit.wf, IntKind.min, IntKind.max, IntKind.signed, IntKind.bits] using hn1
  have HX1 := Lib.hid hx1
  clear hx1 hn1
  have HA := Lib.hid (show cntL (unitL n0 n1) ≤ 100000 from unitL_len n0 n1)
  have HAN := Lib.hid (show (unitL n0 n1).length ≤ 1048576 by have := HA.out; unfold cntL at this; omega)
  go_enter Try.func5, Try.ntmps5
  go_wp2_with fail
  refine (spec_unitV n0 n1 _ HX0.out HX1.out).mono ?_
  rintro e w1 ⟨v_w_0, x_w_0, rfl, o_w_0, b1⟩
  have z1 := Lib.hid b1.size
  have B := Lib.hid b1
  have O_w_0 := Lib.hid o_w_0
  have L_w_0 := Lib.hid o_w_0.lt
  clear o_w_0
  clear b1
  go_wp2_with fail
  refine (impl_unitV n0 n1 _ HX0.out HX1.out).mono ?_
  rintro e w2 ⟨v_g_0, x_g_0, rfl, o_g_0, b2⟩
  have z2 := Lib.hid b2.size
  replace O_w_0 := Lib.hid (O_w_0.out.below b2)
  replace B := Lib.hid (B.out.trans (b2.mono B.out.size))
  have O_g_0 := Lib.hid o_g_0
  have L_g_0 := Lib.hid o_g_0.lt
  clear o_g_0
  clear b2
  go_wp2_with fail
  refine (eq_ratv _ _ _ _ O_g_0.out.rats O_w_0.out.rats HAN.out).mono ?_
  rintro e w3 ⟨rfl, b3⟩
  have z3 := Lib.hid b3.size
  replace O_w_0 := Lib.hid (O_w_0.out.below b3)
  replace O_g_0 := Lib.hid (O_g_0.out.below b3)
  replace B := Lib.hid (B.out.trans (b3.mono B.out.size))
  clear b3
  go_wp2_with fail
  refine (mark_ratv _ (1) _ (unitL n0 n1) _ _ _ (by simp) O_g_0.out (by have := HA.out; omega) (by have := HAN.out; omega)).mono ?_
  rintro e w4 ⟨rfl, o4, b4⟩
  have z4 := Lib.hid b4.size
  replace O_w_0 := Lib.hid (O_w_0.out.kept b4 (fun k hk hs => by have := L_w_0.out k hk; have := L_g_0.out k hs; have := z1.out; have := z2.out; have := z3.out; omega))
  replace O_g_0 := Lib.hid o4
  replace B := Lib.hid (below_kept B.out b4 B.out.size (fun k hk => by have := L_g_0.out k hk; have := z1.out; have := z2.out; have := z3.out; have := B.out.size; omega))
  clear o4
  clear b4
  go_wp2_with fail
  refine (held_ratv _ (1) _ (unitL n0 n1) _ (by simp) O_g_0.out.rats (by have := HA.out; omega)).mono ?_
  rintro e w5 ⟨rfl, b5⟩
  have z5 := Lib.hid b5.size
  replace O_w_0 := Lib.hid (O_w_0.out.below b5)
  replace O_g_0 := Lib.hid (O_g_0.out.below b5)
  replace B := Lib.hid (B.out.trans (b5.mono B.out.size))
  clear b5
  go_wp2_with fail
  refine (impl_unitV n0 n1 _ HX0.out HX1.out).mono ?_
  rintro e w6 ⟨v_h_0, x_h_0, rfl, o_h_0, b6⟩
  have z6 := Lib.hid b6.size
  replace O_w_0 := Lib.hid (O_w_0.out.below b6)
  replace O_g_0 := Lib.hid (O_g_0.out.below b6)
  replace B := Lib.hid (B.out.trans (b6.mono B.out.size))
  have O_h_0 := Lib.hid o_h_0
  have L_h_0 := Lib.hid o_h_0.lt
  clear o_h_0
  clear b6
  go_wp2_with fail
  refine (eq_ratv _ _ _ _ O_h_0.out.rats O_w_0.out.rats HAN.out).mono ?_
  rintro e w7 ⟨rfl, b7⟩
  have z7 := Lib.hid b7.size
  replace O_w_0 := Lib.hid (O_w_0.out.below b7)
  replace O_g_0 := Lib.hid (O_g_0.out.below b7)
  replace O_h_0 := Lib.hid (O_h_0.out.below b7)
  replace B := Lib.hid (B.out.trans (b7.mono B.out.size))
  clear b7
  go_wp2_with fail
  refine (held_ratv _ (1) _ (unitL n0 n1) _ (by simp) O_g_0.out.rats (by have := HA.out; omega)).mono ?_
  rintro e w8 ⟨rfl, b8⟩
  have z8 := Lib.hid b8.size
  replace O_w_0 := Lib.hid (O_w_0.out.below b8)
  replace O_g_0 := Lib.hid (O_g_0.out.below b8)
  replace O_h_0 := Lib.hid (O_h_0.out.below b8)
  replace B := Lib.hid (B.out.trans (b8.mono B.out.size))
  clear b8
  go_wp2
  go_ret
  exact ⟨rfl, B.out⟩


end Go.Proofs.Ytdajldenjeanhaa
