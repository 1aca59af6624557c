/- FormatNat of the model: the decimal digits of a natural number. -/
import Derived.Test.YtofmpfcbdemcnaaDoorNum7
import Derived.Test.YtofmpfcbdemcnaaDoorFormat
import Derived.Test.YtofmpfcbdemcnaaDoorPad
import Derived.Test.YtofmpfcbdemcnaaDoorToInt
namespace Go.Proofs.YtofmpfcbdemcnaaDoor
open Go.RowKit

set_option maxRecDepth 100000
/-- a text of decimal digits -/
def decT (x : Nat) : ByteArray := ⟨(Lib.decDigits x).toArray⟩
def padN9 (d : Nat) : ByteArray := ⟨(padK 9 d).toArray⟩
theorem ba_size (l : List UInt8) : (⟨l.toArray⟩ : ByteArray).size = l.length := by show l.toArray.size = _; simp
theorem decT_size {x n : Nat} (h : x < pw n) : (decT x).size ≤ 9 * n + 1 := by unfold decT; rw [ba_size]; exact dec_limbs n x h
theorem decT_size9 (x i : Nat) : (decT (dig x i)).size ≤ 9 := by unfold decT; rw [ba_size]; exact dec9 x i
theorem padN9_size (d : Nat) : (padN9 d).size = 9 := by unfold padN9; rw [ba_size, padK_length]
theorem ba_append (a b : List UInt8) : (⟨a.toArray⟩ : ByteArray) ++ ⟨b.toArray⟩ = ⟨(a ++ b).toArray⟩ := by
  apply ByteArray.ext
  simp [ByteArray.data_append]
theorem decT_next {x i : Nat} (h : 0 < x / pw (i + 1)) : decT (x / pw (i + 1)) ++ padN9 (dig x i) = decT (x / pw i) := by
  unfold decT padN9
  rw [ba_append, dec_step h]
theorem pad_dec (x i : Nat) : padT (decT (dig x i)) 9 = padN9 (dig x i) := by
  have h9 := dec9 x i
  have hs : (decT (dig x i)).size = (Lib.decDigits (dig x i)).length := by unfold decT; rw [ba_size]
  by_cases h : (Lib.decDigits (dig x i)).length = 9
  · rw [padT_self (.inl (by rw [hs]; omega))]
    unfold decT padN9
    rw [padT9, h, Nat.sub_self]
    rfl
  · have := padT_more (s := decT (dig x i)) (n := 9) (by rw [hs]; omega) (by omega)
    rw [show ((9 : Nat) : Int) = 9 from rfl] at this
    rw [this, hs]
    unfold padN9
    rw [padT9]
    rfl
theorem decT_zero : decT 0 = ⟨#[48]⟩ := by
  unfold decT
  rw [dec_lt (by omega)]
  rfl

set_option maxHeartbeats 1000000 in
theorem spec_formatNat_nat (va : Value) (x : Nat) (w : World) (ha : RowOf iV w va (limI x)) (hx : nlen x ≤ 60) :
    Calls Tryd.prog 17 #[va] w fun e w' => e = .returned (.string (decT x)) ∧ Below w.heap.size w w' := by
  have K0 := Lib.hid (spec_natOk va (limI x) w ha)
  rw [okB_limI ((nlen_le_iff _ _).1 hx)] at K0
  have RA := Lib.hid ha
  obtain ⟨aa, ca, rfl, h1, h2, h3⟩ := ha
  clear h1 h2 h3
  rw [limI_length] at RA K0 ⊢
  by_cases h0 : nlen x = 0
  · have hx0 : x = 0 := by
      have := nlen_pos_iff x
      omega
    have HZ : Hid (decT x = ⟨#[48]⟩) := by unfold Hid; rw [hx0, decT_zero]
    rw [h0] at K0 RA ⊢
    clear h0 hx0 hx
    go_enter Tryd.func17, Tryd.ntmps17
    go_wp2_with (go_at_call 47; refine K0.out.mono ?_; rintro e w' ⟨rfl, rfl⟩)
    go_ret
    exact ⟨by rw [HZ.out]; rfl, Below.refl _ _⟩
  · obtain ⟨n, hn⟩ : ∃ n, nlen x = n + 1 := ⟨nlen x - 1, by omega⟩
    have HN := Lib.hid hn
    have hxn : x < pw (n + 1) := by rw [← hn]; exact lt_pw_nlen x
    have hxn2 : pw n ≤ x := le_of_lt_nlen (by omega)
    rw [hn] at K0 RA hx ⊢
    have ht := dig_of_lt hxn
    obtain ⟨bb, ob, rfl, cx⟩ := row_limb RA.out (k := n) (by omega)
    have hz : ((n : Int) + 1 == 0) = false := by simp; omega
    have e1 : ((n : Int) + 1 - 1).toNat = n := by omega
    have hl := dig_lt x n
    obtain ⟨d, hd⟩ : ∃ d, dig x n = d := ⟨_, rfl⟩
    rw [hd] at ht cx hl
    have S0 := Lib.hid (fun W' => spec_format_nat d W' (by omega))
    have HD : Hid ((⟨(Lib.decDigits d).toArray⟩ : ByteArray) = decT (x / pw n)) := by unfold Hid; rw [ht]; rfl
    rw [HD.out] at S0
    have HX := Lib.hid hxn
    have HX2 := Lib.hid hxn2
    clear hn ht hd h0 hxn hxn2
    go_enter Tryd.func17, Tryd.ntmps17
    go_wp2_with (first
      | (go_at_call 47; refine K0.out.mono ?_; rintro e w' ⟨rfl, hw⟩; obtain rfl := hw.symm)
      | (go_at_call 48; refine (S0.out _).mono ?_; rintro e w1 ⟨rfl, b1⟩))
    have B1 := Lib.hid b1
    clear b1 cx e1 S0 K0
    go_loopw [3, 4] (fun sv iv wr => ∃ k : Nat, k ≤ n ∧ iv = .int .i64 ((k : Int) - 1) ∧ sv = .string (decT (x / pw k)) ∧ Hid (Below w.heap.size w wr)) (fun _ iv _ => (intOf iv + 1).toNat)
    case atStart => exact ⟨n, Nat.le_refl _, by go_num, rfl, B1⟩
    case round =>
      obtain ⟨k, hk, rfl, rfl, HB⟩ := hrel
      by_cases hp : 0 < k
      · obtain ⟨i, rfl⟩ : ∃ i, k = i + 1 := ⟨k - 1, by omega⟩
        have hpos : 0 < x / pw (i + 1) := Nat.div_pos (Nat.le_trans (pw_mono (by omega)) HX2.out) (pw_pos _)
        have N1 := Lib.hid (decT_next hpos)
        have s1 : (decT (x / pw (i + 1))).size ≤ 1000 := by
          have := decT_size (x := x / pw (i + 1)) (n := n + 1) (Nat.lt_of_le_of_lt (Nat.div_le_self _ _) HX.out)
          omega
        have s2 : (padN9 (dig x i)).size ≤ 1000 := by rw [padN9_size]; omega
        have s3 := decT_size9 x i
        obtain ⟨bb', ob', e', cl⟩ := row_limb RA.out (k := i) (by rw [HN.out]; omega)
        injection e' with e'
        injection e' with e2 e3
        subst e2 e3
        have clw := (HB.out.cell (p := ⟨bb, ob + i, none⟩) (World.block_lt_of_cell? w _ cl)).trans cl
        have P9 := pad_dec x i
        have S1 := Lib.hid (fun W' => spec_format_nat (dig x i) W' (by have := dig_lt x i; omega))
        have S2 := Lib.hid (fun W' => spec_pad (decT (dig x i)) 9 W' (by unfold maxLen; omega) (by omega) (by omega))
        rw [P9] at S2
        have e1 : (((i : Nat) : Int)).toNat = i := by omega
        have hl := dig_lt x i
        obtain ⟨t1, ht1⟩ : ∃ t, decT (x / pw (i + 1)) = t := ⟨_, rfl⟩
        obtain ⟨t2, ht2⟩ : ∃ t, padN9 (dig x i) = t := ⟨_, rfl⟩
        obtain ⟨t3, ht3⟩ : ∃ t, decT (dig x i) = t := ⟨_, rfl⟩
        rw [ht1] at s1 N1 ⊢
        rw [ht2] at s2 N1 S2
        rw [ht3] at S2
        change Hid (∀ W', _) at S1
        have S1 : Hid (∀ W', Calls Tryd.prog 48 #[.int .i64 (dig x i : Nat)] W' fun e w' => e = .returned (.string t3) ∧ Below W'.heap.size W' w') := fun W' => by rw [← ht3]; exact S1.out W'
        obtain ⟨d, hd⟩ : ∃ d, dig x i = d := ⟨_, rfl⟩
        rw [hd] at clw S1 hl
        clear cl ht1 ht2 ht3 hd P9 s3
        go_wp2_with (first
          | (go_at_call 48; refine (S1.out _).mono ?_; rintro e w2 ⟨rfl, b2⟩)
          | (go_at_call 49; refine (S2.out _).mono ?_; rintro e w3 ⟨rfl, rfl⟩))
        go_roundw
        case rel => exact ⟨i, by omega, by go_num, by rw [N1.out], HB.out.trans (b2.mono HB.out.size)⟩
        case measure => simp [intOf] <;> omega
      · obtain rfl : k = 0 := by omega
        have HF : Hid (decT (x / pw 0) = decT x) := by unfold Hid; rw [pw_zero, Nat.div_one]
        rw [HF.out]
        go_wp2
        go_ret
        exact ⟨rfl, HB.out⟩

end Go.Proofs.YtofmpfcbdemcnaaDoor
