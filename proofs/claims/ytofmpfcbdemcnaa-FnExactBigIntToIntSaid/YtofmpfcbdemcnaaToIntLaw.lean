/- The exact law of NatToInt. -/
import Derived.Test.YtofmpfcbdemcnaaCmpLaw
namespace Go.Proofs.Ytofmpfcbdemcnaa
open Go.RowKit

theorem limI_max : limI 9223372036854775807 = [854775807, 223372036, 9] := by
  have h : nlen 9223372036854775807 = 2 + 1 := nlen_eq (by simp only [pw]; omega) (by simp only [pw]; omega)
  unfold limI
  rw [h]
  simp [listF, List.range_succ, dig, pw]
def natToIntV (zs : List Int) : Value := if okB zs then intR (natI zs) else .tuple #[.int .i64 0, .bool false]
theorem natToIntV_yes {x : Nat} (hx : x < pw 60) : natToIntV (limI x) = intR x := by unfold natToIntV; rw [okB_limI hx, natI_limI]; rfl
theorem natToIntV_no {zs : List Int} (h : okB zs = false) : natToIntV zs = .tuple #[.int .i64 0, .bool false] := by unfold natToIntV; rw [h]; rfl
theorem intR_form (x : Nat) : ∃ r b, intR x = .tuple #[.int .i64 r, .bool b] := ⟨_, _, rfl⟩
theorem natToIntV_form (zs : List Int) : ∃ r b, natToIntV zs = .tuple #[.int .i64 r, .bool b] := by
  unfold natToIntV; split
  · exact intR_form _
  · exact ⟨_, _, rfl⟩

set_option maxHeartbeats 400000 in
theorem impl_natToInt (va : Value) (zs : List Int) (w : World) (ha : RowOf iV w va zs) :
    Calls Try.prog 47 #[va] w fun e w' => e = .returned (natToIntV zs) ∧ Below w.heap.size w w' := by
  have K0 := Lib.hid (impl_natOk va zs w ha)
  cases e0 : okB zs with
  | false =>
    have HE := Lib.hid (natToIntV_no (zs := zs) e0)
    obtain ⟨aa, ca, rfl, h1, h2, h3⟩ := ha
    rw [e0] at K0
    clear e0 h1 h2 h3
    go_enter Try.func47, Try.ntmps47
    go_wp2_with fail
    refine K0.out.mono ?_
    rintro e w1 ⟨rfl, rfl⟩
    go_wp2
    go_ret2
    exact ⟨by rw [HE.out]; rfl, Below.refl _ _⟩
  | true =>
    obtain ⟨x, rfl, hx⟩ := okB_cases e0
    have HE := Lib.hid (natToIntV_yes hx)
    have H60 := (nlen_le_iff _ _).2 hx
    have HT := Lib.hid (impl_toInt va x w ha (by omega))
    rw [e0] at K0
    obtain ⟨aa, ca, rfl, h1, h2, h3⟩ := ha
    clear h1 h2 h3 e0 hx H60
    obtain ⟨r, b, hr⟩ := intR_form x
    rw [hr] at HE HT
    clear hr
    rw [limI_length] at HT K0 ⊢
    go_enter Try.func47, Try.ntmps47
    go_wp2_with fail
    refine K0.out.mono ?_
    rintro e w1 ⟨rfl, rfl⟩
    go_wp2_with fail
    refine HT.out.mono ?_
    rintro e w2 ⟨rfl, hb⟩
    go_wp2
    go_ret2
    exact ⟨by rw [HE.out]; rfl, hb⟩

theorem toInt_step {x j m : Nat} (h : m = x / pw (j + 1)) : m * 1000000000 + dig x j = x / pw j := by rw [h, ← div_step]

set_option maxHeartbeats 800000 in
theorem spec_natToInt (va : Value) (zs : List Int) (w : World) (ha : RowOf iV w va zs) :
    Calls Try.prog 46 #[va] w fun e w' => e = .returned (natToIntV zs) ∧ Below w.heap.size w w' := by
  have K0 := Lib.hid (spec_natOk va zs w ha)
  cases e0 : okB zs with
  | false =>
    have HE := Lib.hid (natToIntV_no (zs := zs) e0)
    obtain ⟨aa, ca, rfl, h1, h2, h3⟩ := ha
    rw [e0] at K0
    clear e0 h1 h2 h3
    go_enter Try.func46, Try.ntmps46
    go_wp2_with fail
    refine K0.out.mono ?_
    rintro e w1 ⟨rfl, rfl⟩
    go_wp2
    go_ret2
    exact ⟨by rw [HE.out]; rfl, Below.refl _ _⟩
  | true =>
    obtain ⟨x, rfl, hx⟩ := okB_cases e0
    have HE := Lib.hid (natToIntV_yes hx)
    have H60 := Lib.hid ((nlen_le_iff _ _).2 hx)
    rw [e0] at K0
    have RA := Lib.hid ha
    obtain ⟨aa, ca, rfl, h1, h2, h3⟩ := ha
    clear h1 h2 h3 e0 hx
    rw [limI_length] at RA K0 ⊢
    have hlit := World.ownsRow_lit (base := w.heap.size) (e := 3) (size := 1) w #[.int .i64 854775807, .int .i64 223372036, .int .i64 9] 3 (Nat.le_refl _) (by unfold maxLen; omega) rfl
    have HL : Hid (RowOf iV (w.alloc (.cells #[.int .i64 854775807, .int .i64 223372036, .int .i64 9] 3)) (.slice (some ⟨w.heap.size, 0, none⟩) 3 3) (limI 9223372036854775807)) := by
      unfold Hid
      rw [limI_max]
      exact ownsRow_row (xs := [854775807, 223372036, 9]) (f := iV) hlit
    have HBl := Lib.hid ((Below.refl w.heap.size w).alloc (Nat.le_refl _) (.cells #[.int .i64 854775807, .int .i64 223372036, .int .i64 9] 3))
    clear hlit
    have HC := Lib.hid (spec_cmp _ _ x 9223372036854775807 _ (rowOf_below RA.out HBl.out) HL.out (by have := H60.out; omega) (by have : nlen 9223372036854775807 ≤ 3 := (nlen_le_iff _ _).2 (by simp only [pw]; omega); omega))
    by_cases hle : x ≤ 9223372036854775807
    · have HR := Lib.hid (intR_yes hle)
      have hc0 : cmpN x 9223372036854775807 ≤ 0 := by unfold cmpN; split <;> (try split) <;> omega
      obtain ⟨c, hc⟩ : ∃ c, cmpN x 9223372036854775807 = c := ⟨_, rfl⟩
      rw [hc] at hc0 HC
      clear hc
      have HT := Lib.hid (fun j m h => toInt_step (x := x) (j := j) (m := m) h)
      have HDV := Lib.hid (fun j => Nat.div_le_self x (pw j))
      have HLT := Lib.hid (lt_pw_nlen x)
      obtain ⟨n, hn⟩ : ∃ n, nlen x = n := ⟨_, rfl⟩
      rw [hn] at RA K0 H60 HLT HC ⊢
      have hn60 := H60.out
      have HN := Lib.hid hn
      clear hn
      have HX := Lib.hid hle
      have hxb : (x : Int) ≤ 9223372036854775807 := by omega
      go_enter Try.func46, Try.ntmps46
      go_wp2_with fail
      refine K0.out.mono ?_
      rintro e w1 ⟨rfl, rfl⟩
      go_wp2_with fail
      refine HC.out.mono ?_
      rintro e w2 ⟨rfl, hb2⟩
      have HB2 := Lib.hid (HBl.out.trans (hb2.mono (by simp)))
      clear hb2
      go_wp2
      go_loop [4, 5] (fun mv iv => (∃ j m : Nat, j < n ∧ iv = .int .i64 (j : Int) ∧ mv = .int .i64 m ∧ Hid (m = x / pw (j + 1))) ∨ (iv = .int .i64 (-1) ∧ mv = .int .i64 x)) (fun _ iv => (intOf iv + 1).toNat)
      case atStart =>
        by_cases hl : 0 < n
        · exact .inl ⟨n - 1, 0, by omega, by go_num, rfl, by unfold Hid; rw [show n - 1 + 1 = n by omega, Nat.div_eq_of_lt HLT.out]⟩
        · obtain rfl : n = 0 := by omega
          exact .inr ⟨rfl, by have h := HLT.out; rw [pw_zero] at h; rw [show x = 0 by omega]; rfl⟩
      case round =>
        rcases hrel with ⟨j, m, hj, rfl, rfl, HM⟩ | ⟨rfl, rfl⟩
        · obtain ⟨b1, o1, rfl, hx1⟩ := row_limb (rowOf_below RA.out HB2.out) (k := j) (by rw [HN.out]; exact hj)
          have hd := dig_lt x j
          have HS := Lib.hid (HT.out j m HM.out)
          have HV := Lib.hid (HDV.out j)
          obtain ⟨d, hde⟩ : ∃ d, dig x j = d := ⟨_, rfl⟩
          rw [hde] at hx1 hd HS
          clear hde
          have hbd : (m : Int) * 1000000000 + (d : Int) ≤ 9223372036854775807 := by have h1 := HS.out; have h2 := HV.out; have h3 := HX.out; omega
          go_wp2
          go_round
          case rel =>
            by_cases hj0 : 0 < j
            · exact .inl ⟨j - 1, m * 1000000000 + d, by omega, by go_num, by go_num, by unfold Hid; rw [show j - 1 + 1 = j by omega]; exact HS.out⟩
            · refine .inr ⟨by go_num, ?_⟩
              have h := HS.out
              rw [show j = 0 by omega, pw_zero, Nat.div_one] at h
              rw [← h]; go_num
          case measure => simp [intOf]
        · go_wp2
          go_ret2
          exact ⟨by rw [HE.out, HR.out]; rfl, HB2.out⟩
    · have HR := Lib.hid (intR_no hle)
      have hc0 : 0 < cmpN x 9223372036854775807 := by rw [cmpN_gt (by omega)]; omega
      obtain ⟨c, hc⟩ : ∃ c, cmpN x 9223372036854775807 = c := ⟨_, rfl⟩
      rw [hc] at hc0 HC
      clear hc hle
      go_enter Try.func46, Try.ntmps46
      go_wp2_with fail
      refine K0.out.mono ?_
      rintro e w1 ⟨rfl, rfl⟩
      go_wp2_with fail
      refine HC.out.mono ?_
      rintro e w2 ⟨rfl, hb2⟩
      have HB2 := Lib.hid (HBl.out.trans (hb2.mono (by simp)))
      clear hb2
      go_wp2
      go_ret2
      exact ⟨by rw [HE.out, HR.out]; rfl, HB2.out⟩

end Go.Proofs.Ytofmpfcbdemcnaa
