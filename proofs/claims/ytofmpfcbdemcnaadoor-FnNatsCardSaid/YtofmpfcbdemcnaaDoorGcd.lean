/- gcd of the program: Lehmer's form of Euclid's algorithm. -/
import Derived.Test.YtofmpfcbdemcnaaDoorEuclid
import Derived.Test.YtofmpfcbdemcnaaDoorGcdSpec
import Derived.BigQuiet
import Derived.Deep.QuietTactic
namespace Go.Proofs.YtofmpfcbdemcnaaDoor
open Go.RowKit

attribute [local go_sem] Oper.semAt_some

set_option maxHeartbeats 2000000 in
theorem impl_gcd (va vb : Value) (x y : Nat) (w : World) (ha : RowOf iV w va (limI x)) (hb : RowOf iV w vb (limI y)) (hx : nlen x ≤ 60) (hy : nlen y ≤ 60) :
    Calls Tryd.prog 37 #[va, vb] w fun e w' => ∃ v, e = .returned v ∧ OwnI w' w.heap.size v (limI (Nat.gcd x y)) ∧ Below w.heap.size w w' := by
  have RA := Lib.hid ha
  have RB := Lib.hid hb
  have T0 := Lib.hid (impl_compare va vb x y w ha hb (by omega) (by omega))
  obtain ⟨aa, ca, rfl, e1, e2, e3⟩ := ha
  obtain ⟨ab, cb, rfl, e4, e5, e6⟩ := hb
  clear e1 e2 e3 e4 e5 e6
  rw [limI_length] at RA T0 ⊢
  rw [limI_length] at RB T0 ⊢
  have HCN := Lib.hid (cmpN_neg x y)
  obtain ⟨cm, hcm⟩ : ∃ cm, cmpN x y = cm := ⟨_, rfl⟩
  rw [hcm] at T0 HCN
  clear hcm
  go_enter Tryd.func37, Tryd.ntmps37
  go_upto_region 1 with fail
  go_cut [14] from 11 (fun q wc => q = .bool (decide (cm < 0)) ∧ Hid (Below w.heap.size w wc))
  case first =>
    go_wp2_with (go_at_call 42; refine T0.out.mono ?_; rintro e w1 ⟨rfl, b1⟩)
    go_meet
    exact ⟨rfl, b1⟩
  obtain ⟨rfl, HB1⟩ := hcut
  clear T0
  go_upto_if 14 with fail
  go_cut [0, 1] from 14 (fun p q wd => ∃ a b : Nat, b ≤ a ∧ nlen a ≤ 60 ∧ Hid (Nat.gcd a b = Nat.gcd x y) ∧ Hid (RowOf iV wd p (limI a)) ∧ Hid (RowOf iV wd q (limI b)) ∧ Hid (Below w.heap.size w wd))
  case first =>
    by_cases hlt : x < y
    · have hc : decide (cm < 0) = true := decide_eq_true (HCN.out.2 hlt)
      rw [hc]
      clear hc
      go_wp2
      go_meet
      exact ⟨y, x, by omega, hy, Nat.gcd_comm y x, rowOf_below RB.out HB1.out, rowOf_below RA.out HB1.out, HB1⟩
    · have hc : decide (cm < 0) = false := decide_eq_false (fun h => hlt (HCN.out.1 h))
      rw [hc]
      clear hc
      go_wp2
      go_meet
      exact ⟨x, y, by omega, hx, rfl, rowOf_below RA.out HB1.out, rowOf_below RB.out HB1.out, HB1⟩
  obtain ⟨a, b, hba, ha60, HG, R0, R1, HB⟩ := hcut
  clear HB1 RA RB HCN
  go_upto_block 0 with fail
  go_cut [0, 1] from 17 (fun p q wd => ∃ a b : Nat, b ≤ a ∧ nlen a ≤ 60 ∧ nlen b ≤ 2 ∧ Hid (Nat.gcd a b = Nat.gcd x y) ∧ Hid (RowOf iV wd p (limI a)) ∧ Hid (RowOf iV wd q (limI b)) ∧ Hid (Below w.heap.size w wd))
  case first =>
    go_wp2
    go_loopg [0, 1] b (fun gk p q wr => ∃ a : Nat, gk ≤ a ∧ nlen a ≤ 60 ∧ Hid (Nat.gcd a gk = Nat.gcd x y) ∧ Hid (RowOf iV wr p (limI a)) ∧ Hid (RowOf iV wr q (limI gk)) ∧ Hid (Below w.heap.size w wr))
    case atStart => exact ⟨a, hba, ha60, HG, R0, R1, HB⟩
    case round =>
      clear hba ha60 HG R0 R1 HB
      obtain ⟨a, hba, ha60, HG, R0, R1, HB⟩ := hrel
      by_cases h2 : 2 < nlen gk
      · have hm := nlen_mono hba
        have TE := Lib.hid (impl_euclid _ _ a gk (nlen a - 3) wr R0.out R1.out hba (by omega) (by omega) ha60)
        have hsz : w.heap.size ≤ wr.heap.size := HB.out.size
        obtain ⟨p0, c0, rfl, a1, a2, a3⟩ := R0.out
        obtain ⟨p1, c1, rfl, a4, a5, a6⟩ := R1.out
        clear a1 a2 a3 a4 a5 a6
        rw [limI_length] at TE R0 ⊢
        rw [limI_length] at TE R1 ⊢
        go_wp2_with (go_at_call 60; refine TE.out.mono ?_; rintro e w3 ⟨v0, v1, ⟨A, B, rfl, r0, r1, hg, hBA, hAa, hBb⟩, b3⟩)
        go_roundg B
        case measure => exact hBb
        case rel => exact ⟨A, hBA, Nat.le_trans (nlen_mono hAa) ha60, hg.trans HG.out, r0, r1, HB.out.trans (b3.mono hsz)⟩
      · obtain ⟨p1, c1, rfl, a4, a5, a6⟩ := R1.out
        clear a4 a5 a6
        rw [limI_length] at R1 ⊢
        go_wp2
        go_meet
        exact ⟨a, gk, hba, ha60, by omega, HG, R0, R1, HB⟩
  clear hba ha60 HG R0 R1 HB
  obtain ⟨a, b, hba, ha60, hb2, HG, R0, R1, HB⟩ := hcut
  have hsz : w.heap.size ≤ wc.heap.size := HB.out.size
  have TC := Lib.hid (impl_clone _ a wc R0.out (by omega))
  have TD := Lib.hid (fun (h0 : 0 < b) => impl_divide _ _ a b wc R0.out R1.out h0 (by omega) (by omega))
  obtain ⟨p0, c0, rfl, a1, a2, a3⟩ := R0.out
  obtain ⟨p1, c1, rfl, a4, a5, a6⟩ := R1.out
  clear a1 a2 a3 a4 a5 a6
  rw [limI_length] at TC TD R0 ⊢
  rw [limI_length] at TD R1 ⊢
  by_cases hb0 : b = 0
  · subst hb0
    have HE : Hid (a = Nat.gcd x y) := by have := HG.out; rw [Nat.gcd_zero_right] at this; exact this
    rw [nlen_zero] at R1 ⊢
    clear TD
    go_wp2_with (go_at_call 57; refine TC.out.mono ?_; rintro e w3 ⟨v3, rfl, o3, b3⟩)
    go_ret
    exact ⟨_, rfl, by rw [← HE.out]; exact o3.base hsz, HB.out.trans (b3.mono hsz)⟩
  · have hn1 := (nlen_pos_iff b).2 (by omega)
    have hnz : ((nlen b : Int) == 0) = false := by simp; omega
    have TD1 := Lib.hid (TD.out (by omega))
    clear TD TC
    go_upto_if 33 with fail
    go_cut [0, 1] from 28 (fun p q wd => ∃ A B : Nat, nlen A ≤ 2 ∧ nlen B ≤ 2 ∧ Hid (Nat.gcd A B = Nat.gcd x y) ∧ Hid (RowOf iV wd p (limI A)) ∧ Hid (RowOf iV wd q (limI B)) ∧ Hid (Below w.heap.size w wd))
    case first =>
      by_cases hl : 2 < nlen a
      · go_wp2_with (go_at_call 36; refine TD1.out.mono ?_; rintro e w3 ⟨v0, v1, rfl, o0, o1, ap, b3⟩)
        go_meet
        exact ⟨b, a % b, hb2, Nat.le_trans (nlen_mono (Nat.le_of_lt (Nat.mod_lt _ (by omega)))) hb2, (gcd_step a b).trans HG.out, rowOf_below R1.out b3, o1.row, HB.out.trans (b3.mono hsz)⟩
      · go_wp2
        go_meet
        exact ⟨a, b, by omega, hb2, HG, R0, R1, HB⟩
    clear hba ha60 hb2 HG R0 R1 HB hb0 hn1 hnz TD1 hsz
    obtain ⟨A, B, hA, hB, HG, R0, R1, HB⟩ := hcut
    have hsz : w.heap.size ≤ wc.heap.size := HB.out.size
    have mA : A ≤ 999999999999999999 := by have := (nlen_le_iff 2 A).1 hA; rw [pw_succ, pw_one] at this; omega
    have mB : B ≤ 999999999999999999 := by have := (nlen_le_iff 2 B).1 hB; rw [pw_succ, pw_one] at this; omega
    have T1 := impl_toInt _ A wc R0.out (by omega)
    rw [intR_yes (by omega)] at T1
    have T1 := Lib.hid T1
    have T2 := Lib.hid (fun (W' : World) (hW : Below wc.heap.size wc W') => intR_yes (show B ≤ 9223372036854775807 by omega) ▸ impl_toInt _ B W' (rowOf_below R1.out hW) (by omega))
    obtain ⟨p0, c0, rfl, a1, a2, a3⟩ := R0.out
    obtain ⟨p1, c1, rfl, a4, a5, a6⟩ := R1.out
    clear a1 a2 a3 a4 a5 a6
    rw [limI_length] at T1 R0 ⊢
    rw [limI_length] at T2 R1 ⊢
    go_upto_region 11 with (go_at_call 61; refine T1.out.mono ?_; rintro e w3 ⟨rfl, b3⟩)
    go_wp2_with (go_at_call 61; refine (T2.out _ b3).mono ?_; rintro e w4 ⟨rfl, b4⟩)
    have HB4 := Lib.hid ((HB.out.trans (b3.mono hsz)).trans (b4.mono (Nat.le_trans hsz b3.size)))
    clear T1 T2 b3 b4 R0 R1 HB hsz
    go_loopw [7, 9] (fun xv yv wr => ∃ p q : Nat, xv = .int .i64 p ∧ yv = .int .i64 q ∧ p ≤ 999999999999999999 ∧ q ≤ 999999999999999999 ∧ Hid (Nat.gcd p q = Nat.gcd x y) ∧ Hid (Below w.heap.size w wr)) (fun _ yv _ => (intOf yv).toNat)
    case atStart => exact ⟨A, B, rfl, rfl, mA, mB, HG, HB4⟩
    case round =>
      obtain ⟨p, q, rfl, rfl, hp, hq, HGq, HBq⟩ := hrel
      by_cases h0 : 0 < q
      · have hm : ((p : Int) % (q : Int)) = ((p % q : Nat) : Int) := by simp
        have hmt : ((p : Int).tmod (q : Int)) = ((p % q : Nat) : Int) := by rw [Int.tmod_eq_emod_of_nonneg (by omega)]; simp
        have hbz : ((q : Int) == 0) = false := by simp; omega
        have hlt := Nat.mod_lt p h0
        have HS := Lib.hid ((gcd_step p q).trans HGq.out)
        obtain ⟨r, hr⟩ : ∃ r, p % q = r := ⟨_, rfl⟩
        rw [hr] at hm hmt hlt HS
        clear hr
        go_wp2
        go_quiet (fail)
        go_wp2
        go_roundw
        case rel => exact ⟨q, r, by go_num, by go_num, hq, by omega, HS, below_drewN HBq.out _⟩
        case measure => simp [intOf]; omega
      · obtain rfl : q = 0 := by omega
        have HE : Hid (p = Nat.gcd x y) := by have := HGq.out; rw [Nat.gcd_zero_right] at this; exact this
        have hsz : w.heap.size ≤ wr.heap.size := HBq.out.size
        go_wp2_with (go_at_call 43; refine (impl_limbsOf_nat p _ (by omega)).mono ?_; rintro e w5 ⟨v5, rfl, o5, b5⟩)
        go_ret
        exact ⟨_, rfl, by rw [← HE.out]; exact o5.base hsz, HBq.out.trans (b5.mono hsz)⟩

end Go.Proofs.YtofmpfcbdemcnaaDoor
