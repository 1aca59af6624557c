/- ParseNat of the program and of the model; the exact law of ParseNat. -/
import Derived.Test.YtofmpfcbdemcnaaDoorParseNat
import Derived.Test.YtofmpfcbdemcnaaDoorLawTail
namespace Go.Proofs.YtofmpfcbdemcnaaDoor
open Go.RowKit

set_option maxRecDepth 100000
def parseL (s : ByteArray) : List Int := if numB s then limI (numV s) else []
theorem parseL_yes {s : ByteArray} (h : numB s = true) : parseL s = limI (numV s) := if_pos h
theorem parseL_no {s : ByteArray} (h : numB s = false) : parseL s = [] := by unfold parseL; rw [h]; rfl
theorem numB_parts {s : ByteArray} (h : numB s = true) : digB s = true ∧ s.size ≤ 540 ∧ (s.size = 1 ∨ s.data.toList.head? ≠ some 48) := by
  unfold numB at h
  rw [Bool.and_eq_true, Bool.and_eq_true, Bool.or_eq_true, decide_eq_true_eq, decide_eq_true_eq, decide_eq_true_eq] at h
  exact ⟨h.1.1, h.1.2, h.2⟩
theorem numB_mk {s : ByteArray} (h1 : digB s = true) (h2 : s.size ≤ 540) (h3 : s.size = 1 ∨ s.data.toList.head? ≠ some 48) : numB s = true := by
  unfold numB
  rw [h1, decide_eq_true h2]
  rcases h3 with h3 | h3
  · rw [decide_eq_true h3]; rfl
  · rw [decide_eq_true h3]; simp
theorem parseL_len (s : ByteArray) : (parseL s).length ≤ 1000 := by
  unfold parseL
  split
  · rename_i h
    obtain ⟨h1, h2, h3⟩ := numB_parts h
    rw [limI_length]
    have := dv_nlen (l := s.data.toList) (digB_digs h1) (k := 60) (by rw [sz_list]; omega)
    unfold numV; omega
  · simp

set_option maxHeartbeats 1000000 in
theorem spec_parseNat (s : ByteArray) (w : World) (hs : s.size ≤ 1048576) :
    Calls Tryd.prog 20 #[.string s] w fun e w' => ∃ v, e = .returned (.tuple #[v, .bool (numB s)]) ∧ OwnI w' w.heap.size v (parseL s) ∧ Below w.heap.size w w' := by
  have K0 : Hid (Calls Tryd.prog 50 #[.string s] w fun e w' => e = .returned (.bool (digB s)) ∧ Below w.heap.size w w') := (spec_isDigits s w (by unfold maxLen; omega)).mono fun _ _ ⟨h1, h2⟩ => ⟨h1, by rw [h2]; exact Below.refl _ _⟩
  cases hB : numB s with
  | true =>
    obtain ⟨h1, h2, h3⟩ := numB_parts hB
    rw [parseL_yes hB]
    exact spec_parseNat_yes s w h1 h2 h3
  | false =>
    rw [parseL_no hB]
    obtain ⟨n, hn⟩ : ∃ n, s.size = n := ⟨_, rfl⟩
    by_cases h540 : 540 < n
    · cases hd : digB s with
      | false =>
        rw [hd] at K0
        clear hd hB
        go_enter Tryd.func20, Tryd.ntmps20
        go_wp2_with (go_at_call 50; refine K0.out.mono ?_; rintro e w0 ⟨rfl, b0⟩)
        go_ret2
        exact ⟨_, rfl, OwnI.nil _ _, b0⟩
      | true =>
        rw [hd] at K0
        clear hd hB
        go_enter Tryd.func20, Tryd.ntmps20
        go_wp2_with (go_at_call 50; refine K0.out.mono ?_; rintro e w0 ⟨rfl, b0⟩)
        go_ret2
        exact ⟨_, rfl, OwnI.nil _ _, b0⟩
    · cases hd : digB s with
      | false =>
        rw [hd] at K0
        clear hd hB
        go_enter Tryd.func20, Tryd.ntmps20
        go_wp2_with (go_at_call 50; refine K0.out.mono ?_; rintro e w0 ⟨rfl, b0⟩)
        go_ret2
        exact ⟨_, rfl, OwnI.nil _ _, b0⟩
      | true =>
        rw [hd] at K0
        have hP := digB_pos hd
        have h3 : ¬ (s.size = 1 ∨ s.data.toList.head? ≠ some 48) := fun h => by
          rw [numB_mk hd (by omega) h] at hB
          exact absurd hB (by decide)
        have h1 : 1 < n := by
          rcases Nat.lt_or_ge 1 n with h | h
          · exact h
          · exact absurd (.inl (by omega)) h3
        have h4 : s.data.toList.head? = some 48 := Classical.byContradiction fun h => h3 (.inr h)
        rw [head_get hP] at h4
        obtain ⟨c0, hc0⟩ : ∃ c, (s[0]'hP).toNat = c := ⟨_, rfl⟩
        have h48 : ((c0 : Int) == 48) = true := by
          injection h4 with h4
          rw [h4] at hc0
          rw [← hc0]; rfl
        have hne : (s.toList == [48]) = false := by
          rw [beq_eq_false_iff_ne]
          intro e
          rw [ByteArray.toList_eq] at e
          have := congrArg List.length e
          rw [sz_list] at this
          simp at this; omega
        clear hd hB h3 h4
        go_enter Tryd.func20, Tryd.ntmps20
        go_wp2_with (go_at_call 50; refine K0.out.mono ?_; rintro e w0 ⟨rfl, b0⟩)
        go_ret2
        exact ⟨_, rfl, OwnI.nil _ _, b0⟩

set_option maxHeartbeats 1000000 in
theorem impl_parseNat (s : ByteArray) (w : World) (hs : s.size ≤ 1048576) :
    Calls Tryd.prog 11 #[.string s] w fun e w' => ∃ v, e = .returned (.tuple #[v, .bool (numB s)]) ∧ OwnI w' w.heap.size v (parseL s) ∧ Below w.heap.size w w' := by
  have K0 : Hid (Calls Tryd.prog 38 #[.string s] w fun e w' => e = .returned (.bool (digB s)) ∧ Below w.heap.size w w') := impl_isDigits s w (by unfold maxLen; omega)
  cases hB : numB s with
  | true =>
    obtain ⟨h1, h2, h3⟩ := numB_parts hB
    rw [parseL_yes hB]
    exact impl_parseNat_yes s w h1 h2 h3
  | false =>
    rw [parseL_no hB]
    obtain ⟨n, hn⟩ : ∃ n, s.size = n := ⟨_, rfl⟩
    by_cases h540 : 540 < n
    · clear hB
      go_enter Tryd.func11, Tryd.ntmps11
      go_wp2_with (go_at_call 38; refine K0.out.mono ?_; rintro e w0 ⟨rfl, b0⟩)
      go_ret2
      exact ⟨_, rfl, OwnI.nil _ _, Below.refl _ _⟩
    · cases hd : digB s with
      | false =>
        rw [hd] at K0
        clear hd hB
        go_enter Tryd.func11, Tryd.ntmps11
        go_wp2_with (go_at_call 38; refine K0.out.mono ?_; rintro e w0 ⟨rfl, b0⟩)
        go_ret2
        exact ⟨_, rfl, OwnI.nil _ _, b0⟩
      | true =>
        rw [hd] at K0
        have hP := digB_pos hd
        have h3 : ¬ (s.size = 1 ∨ s.data.toList.head? ≠ some 48) := fun h => by
          rw [numB_mk hd (by omega) h] at hB
          exact absurd hB (by decide)
        have h1 : 1 < n := by
          rcases Nat.lt_or_ge 1 n with h | h
          · exact h
          · exact absurd (.inl (by omega)) h3
        have h4 : s.data.toList.head? = some 48 := Classical.byContradiction fun h => h3 (.inr h)
        rw [head_get hP] at h4
        obtain ⟨c0, hc0⟩ : ∃ c, (s[0]'hP).toNat = c := ⟨_, rfl⟩
        have h48 : ((c0 : Int) == 48) = true := by
          injection h4 with h4
          rw [h4] at hc0
          rw [← hc0]; rfl
        have hne : (s.toList == [48]) = false := by
          rw [beq_eq_false_iff_ne]
          intro e
          rw [ByteArray.toList_eq] at e
          have := congrArg List.length e
          rw [sz_list] at this
          simp at this; omega
        clear hd hB h3 h4
        go_enter Tryd.func11, Tryd.ntmps11
        go_wp2_with (go_at_call 38; refine K0.out.mono ?_; rintro e w0 ⟨rfl, b0⟩)
        go_ret2
        exact ⟨_, rfl, OwnI.nil _ _, b0⟩

set_option maxHeartbeats 2000000 in
theorem law_parseNat (W : World) (s0 : ByteArray) (hs0 : s0.size ≤ maxLen) :
    Calls Tryd.prog 5 #[.string s0] W fun e w' => e = .returned (.bool true) ∧ Below W.heap.size W w' := by
  have S0 := Lib.hid hs0
  unfold maxLen at hs0
  by_cases hl0 : s0.size ≤ 1048576
  rotate_left
  · go_enter Tryd.func5, Tryd.ntmps5
    go_wp2
    go_ret
    exact ⟨rfl, Below.refl _ _⟩
  go_enter Tryd.func5, Tryd.ntmps5
  go_wp2_with fail
  refine (spec_parseNat s0 _  (by omega)).mono ?_
  rintro e w1 ⟨v_w_0, rfl, o_w_0, b1⟩
  have z1 := Lib.hid b1.size
  have B := Lib.hid b1
  have O_w_0 := Lib.hid o_w_0
  have L_w_0 := Lib.hid o_w_0.lt
  clear o_w_0
  clear b1
  go_wp2_with fail
  refine (impl_parseNat s0 _  (by omega)).mono ?_
  rintro e w2 ⟨v_g_0, rfl, o_g_0, b2⟩
  have z2 := Lib.hid b2.size
  replace O_w_0 := Lib.hid (O_w_0.out.below b2)
  replace B := Lib.hid (B.out.trans (b2.mono B.out.size))
  have O_g_0 := Lib.hid o_g_0
  have L_g_0 := Lib.hid o_g_0.lt
  clear o_g_0
  clear b2
  go_wp2_with fail
  refine (eq_intsB _ _ _ _ O_g_0.out.row O_w_0.out.row).mono ?_
  rintro e w3 ⟨rfl, b3⟩
  have z3 := Lib.hid b3.size
  replace O_w_0 := Lib.hid (O_w_0.out.below b3)
  replace O_g_0 := Lib.hid (O_g_0.out.below b3)
  replace B := Lib.hid (B.out.trans (b3.mono B.out.size))
  clear b3
  have hl_0 := Lib.hid (parseL_len s0)
  obtain ⟨q0, hq0⟩ : ∃ n, (parseL s0).length = n := ⟨_, rfl⟩
  have Q0 := Lib.hid hq0
  rw [hq0] at hl_0
  clear hq0
  go_wp2_with fail
  refine (mark_ints _ (1) _ _ _ _ (by simp) O_g_0.out (by rw [Q0.out]; have := hl_0.out; omega)).mono ?_
  rintro e w4 ⟨rfl, o4, b4⟩
  have z4 := Lib.hid (grownBy_size b4)
  replace O_w_0 := Lib.hid (O_w_0.out.other b4 (fun g g' e1 e2 => by have := L_w_0.out g e1; have := L_g_0.out g' e2; have := z1.out; have := z2.out; have := z3.out; omega))
  replace O_g_0 := Lib.hid o4
  replace B := Lib.hid (Below.grown B.out b4 B.out.size (fun g hg => by have := L_g_0.out g hg; have := z1.out; have := z2.out; have := z3.out; have := B.out.size; omega))
  clear o4
  clear b4
  rw [Q0.out] at O_g_0 ⊢
  go_wp2_with fail
  refine (held_intsB _ q0 (1) _ _ (by simp) O_g_0.out.row (by have := hl_0.out; omega)).mono ?_
  rintro e w5 ⟨rfl, b5⟩
  have z5 := Lib.hid b5.size
  replace O_w_0 := Lib.hid (O_w_0.out.below b5)
  replace O_g_0 := Lib.hid (O_g_0.out.below b5)
  replace B := Lib.hid (B.out.trans (b5.mono B.out.size))
  clear b5
  go_wp2_with fail
  refine (impl_parseNat s0 _  (by omega)).mono ?_
  rintro e w6 ⟨v_h_0, rfl, o_h_0, b6⟩
  have z6 := Lib.hid b6.size
  replace O_w_0 := Lib.hid (O_w_0.out.below b6)
  replace O_g_0 := Lib.hid (O_g_0.out.below b6)
  replace B := Lib.hid (B.out.trans (b6.mono B.out.size))
  have O_h_0 := Lib.hid o_h_0
  have L_h_0 := Lib.hid o_h_0.lt
  clear o_h_0
  clear b6
  go_wp2_with fail
  refine (eq_intsB _ _ _ _ O_h_0.out.row O_w_0.out.row).mono ?_
  rintro e w7 ⟨rfl, b7⟩
  have z7 := Lib.hid b7.size
  replace O_w_0 := Lib.hid (O_w_0.out.below b7)
  replace O_g_0 := Lib.hid (O_g_0.out.below b7)
  replace O_h_0 := Lib.hid (O_h_0.out.below b7)
  replace B := Lib.hid (B.out.trans (b7.mono B.out.size))
  clear b7
  go_wp2_with fail
  refine (held_intsB _ q0 (1) _ _ (by simp) O_g_0.out.row (by have := hl_0.out; omega)).mono ?_
  rintro e w8 ⟨rfl, b8⟩
  have z8 := Lib.hid b8.size
  replace O_w_0 := Lib.hid (O_w_0.out.below b8)
  replace O_g_0 := Lib.hid (O_g_0.out.below b8)
  replace O_h_0 := Lib.hid (O_h_0.out.below b8)
  replace B := Lib.hid (B.out.trans (b8.mono B.out.size))
  clear b8
  go_wp2
  go_ret
  exact ⟨rfl, B.out⟩


end Go.Proofs.YtofmpfcbdemcnaaDoor
