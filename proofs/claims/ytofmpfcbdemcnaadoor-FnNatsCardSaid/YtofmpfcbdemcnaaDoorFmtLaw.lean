/- FormatNat of the program and of the model; the exact law of FormatNat. -/
import Derived.Test.YtofmpfcbdemcnaaDoorText
import Derived.Test.YtofmpfcbdemcnaaDoorLawTail
import Derived.Test.YtofmpfcbdemcnaaDoorSpecAdd
namespace Go.Proofs.YtofmpfcbdemcnaaDoor
open Go.RowKit

set_option maxRecDepth 100000
def natText (zs : List Int) : ByteArray := if okB zs then decT (natI zs) else ⟨#[]⟩
theorem natText_no {zs : List Int} (h : okB zs = false) : natText zs = ⟨#[]⟩ := by unfold natText; rw [h]; rfl
theorem natText_yes {x : Nat} (h : x < pw 60) : natText (limI x) = decT x := by unfold natText; rw [okB_limI h, natI_limI]; rfl
theorem impl_textAny (va : Value) (x : Nat) (w : World) (ha : RowOf iV w va (limI x)) (hx : nlen x ≤ 60) (htab : Lib.TabIs Tryd.prog w "internal/strconv.uint64pow10" .u64 Lib.pow10Tab) :
    Calls Tryd.prog 41 #[va] w fun e w' => e = .returned (.string (decT x)) ∧ Below w.heap.size w w' := by
  by_cases h0 : nlen x = 0
  · have hx0 : x = 0 := by
      have := nlen_pos_iff x
      omega
    have HZ : Hid (decT x = ⟨#[48]⟩) := by unfold Hid; rw [hx0, decT_zero]
    obtain ⟨aa, ca, rfl, h1, h2, h3⟩ := ha
    rw [limI_length, h0]
    clear h0 hx0 hx h1 h2 h3 htab
    go_enter Tryd.func41, Tryd.ntmps41
    go_wp2
    first
      | (go_ret; exact ⟨by rw [HZ.out]; rfl, Below.refl _ _⟩)
      | exact bodyPost_ret (v := .string ⟨#[48]⟩) (by simp [results, Tryd.results41, go_sem]) rfl ⟨by rw [HZ.out], Below.refl _ _⟩
  · exact impl_text va x (nlen x - 1) w ha (by omega) hx htab

set_option maxHeartbeats 400000 in
theorem spec_formatNat (va : Value) (zs : List Int) (w : World) (ha : RowOf iV w va zs) :
    Calls Tryd.prog 17 #[va] w fun e w' => e = .returned (.string (natText zs)) ∧ Below w.heap.size w w' := by
  cases e0 : okB zs with
  | false =>
    have K0 := Lib.hid (spec_natOk va zs w ha)
    have HE := Lib.hid (natText_no e0)
    rw [e0] at K0
    obtain ⟨aa, ca, rfl, h1, h2, h3⟩ := ha
    clear e0 h1 h2 h3
    go_enter Tryd.func17, Tryd.ntmps17
    go_wp2_with (go_at_call 47; refine K0.out.mono ?_; rintro e w' ⟨rfl, rfl⟩)
    go_ret
    exact ⟨by rw [HE.out]; rfl, Below.refl _ _⟩
  | true =>
    obtain ⟨x, rfl, hx⟩ := okB_cases e0
    rw [natText_yes hx]
    have h60 := (nlen_le_iff 60 x).2 hx
    exact spec_formatNat_nat va x w ha h60

set_option maxHeartbeats 400000 in
theorem impl_formatNat (va : Value) (zs : List Int) (w : World) (htab : Lib.TabIs Tryd.prog w "internal/strconv.uint64pow10" .u64 Lib.pow10Tab) (ha : RowOf iV w va zs) :
    Calls Tryd.prog 12 #[va] w fun e w' => e = .returned (.string (natText zs)) ∧ Below w.heap.size w w' := by
  cases e0 : okB zs with
  | false =>
    have K0 := Lib.hid (impl_natOk va zs w ha)
    have HE := Lib.hid (natText_no e0)
    rw [e0] at K0
    obtain ⟨aa, ca, rfl, h1, h2, h3⟩ := ha
    clear e0 h1 h2 h3 htab
    go_enter Tryd.func12, Tryd.ntmps12
    go_wp2_with (go_at_call 35; refine K0.out.mono ?_; rintro e w' ⟨rfl, rfl⟩)
    go_ret
    exact ⟨by rw [HE.out]; rfl, Below.refl _ _⟩
  | true =>
    obtain ⟨x, rfl, hx⟩ := okB_cases e0
    rw [natText_yes hx]
    have h60 := (nlen_le_iff 60 x).2 hx
    have K0 := Lib.hid (impl_natOk va (limI x) w ha)
    rw [e0] at K0
    have T := Lib.hid (impl_textAny va x w ha h60 htab)
    obtain ⟨aa, ca, rfl, h1, h2, h3⟩ := ha
    clear e0 h1 h2 h3 htab hx h60
    go_enter Tryd.func12, Tryd.ntmps12
    go_wp2_with (first
      | (go_at_call 35; refine K0.out.mono ?_; rintro e w' ⟨rfl, hw⟩; obtain rfl := hw.symm)
      | (go_at_call 41; refine T.out.mono ?_; rintro e w1 ⟨rfl, b1⟩))
    go_ret
    exact ⟨rfl, b1⟩

set_option maxHeartbeats 2000000 in
theorem law_formatNat (W : World) (tab : Lib.TabIs Tryd.prog W "internal/strconv.uint64pow10" .u64 Lib.pow10Tab) (v0 : Value) (zs0 : List Int) (h0 : RowOf iV W v0 zs0) (_ : True) :
    Calls Tryd.prog 4 #[v0] W fun e w' => e = .returned (.bool true) ∧ Below W.heap.size W w' := by
  have HFtab := Lib.hid tab
  clear tab
  have R0 := Lib.hid h0
  obtain ⟨a0, c0, rfl, hc0, hm0, hr0⟩ := h0
  clear hr0
  unfold maxLen at hm0
  obtain ⟨m0, hm0'⟩ : ∃ n, zs0.length = n := ⟨_, rfl⟩
  rw [hm0'] at hc0 R0 ⊢
  have N0 := Lib.hid hm0'
  clear hm0'
  by_cases hl0 : m0 ≤ 1048576
  rotate_left
  · go_enter Tryd.func4, Tryd.ntmps4
    go_wp2
    go_ret
    exact ⟨rfl, Below.refl _ _⟩
  go_enter Tryd.func4, Tryd.ntmps4
  go_wp2_with fail
  refine (to_ints _ zs0 _ R0.out (by rw [N0.out]; omega)).mono ?_
  rintro e w1 ⟨v_t1, rfl, o_t1, b1⟩
  have z1 := Lib.hid b1.size
  have B := Lib.hid b1
  have O_t1 := Lib.hid o_t1
  have L_t1 := Lib.hid o_t1.lt
  clear o_t1
  clear b1
  go_wp2_with fail
  refine (spec_formatNat _ zs0 _  O_t1.out.row).mono ?_
  rintro e w2 ⟨rfl, b2⟩
  have z2 := Lib.hid b2.size
  replace O_t1 := Lib.hid (O_t1.out.below b2)
  replace B := Lib.hid (B.out.trans (b2.mono B.out.size))
  clear b2
  clear O_t1 L_t1
  go_wp2_with fail
  refine (to_ints _ zs0 _ (rowOf_below R0.out B.out) (by rw [N0.out]; omega)).mono ?_
  rintro e w3 ⟨v_t2, rfl, o_t2, b3⟩
  have z3 := Lib.hid b3.size
  replace B := Lib.hid (B.out.trans (b3.mono B.out.size))
  have O_t2 := Lib.hid o_t2
  have L_t2 := Lib.hid o_t2.lt
  clear o_t2
  clear b3
  go_wp2_with fail
  refine (impl_formatNat _ zs0 _ (tab_below B.out HFtab.out) O_t2.out.row).mono ?_
  rintro e w4 ⟨rfl, b4⟩
  have z4 := Lib.hid b4.size
  replace O_t2 := Lib.hid (O_t2.out.below b4)
  replace B := Lib.hid (B.out.trans (b4.mono B.out.size))
  clear b4
  go_wp2_with fail
  refine (to_ints _ zs0 _ (rowOf_below R0.out B.out) (by rw [N0.out]; omega)).mono ?_
  rintro e w5 ⟨v_t3, rfl, o_t3, b5⟩
  have z5 := Lib.hid b5.size
  replace O_t2 := Lib.hid (O_t2.out.below b5)
  replace B := Lib.hid (B.out.trans (b5.mono B.out.size))
  have O_t3 := Lib.hid o_t3
  have L_t3 := Lib.hid o_t3.lt
  clear o_t3
  clear b5
  go_wp2_with fail
  refine (eq_intsB _ _ _ _ O_t2.out.row O_t3.out.row).mono ?_
  rintro e w6 ⟨rfl, b6⟩
  have z6 := Lib.hid b6.size
  replace O_t2 := Lib.hid (O_t2.out.below b6)
  replace O_t3 := Lib.hid (O_t3.out.below b6)
  replace B := Lib.hid (B.out.trans (b6.mono B.out.size))
  clear b6
  clear O_t3 L_t3
  go_wp2
  go_ret
  exact ⟨rfl, B.out⟩


end Go.Proofs.YtofmpfcbdemcnaaDoor
