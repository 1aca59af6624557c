/- l02Plain and l02Gcd of the model: greatest common divisors by Euclid's algorithm. -/
import Derived.Test.YthddmilompcfaaaDivLaw
import Derived.Test.YthddmilompcfaaaToIntLaw
import Derived.Deep.LoopGhost
namespace Go.Proofs.Ythddmilompcfaaa
open Go.RowKit

attribute [local go_sem] Oper.semAt_some

theorem gcd_step (a b : Nat) : Nat.gcd b (a % b) = Nat.gcd a b := by rw [Nat.gcd_comm a b, Nat.gcd_rec b a, Nat.gcd_comm]

set_option maxHeartbeats 400000 in
theorem spec_plain (x y : Nat) (w : World) (hx : x ≤ 9223372036854775807) (hy : y ≤ 9223372036854775807) :
    Calls Try.prog 61 #[.int .i64 x, .int .i64 y] w fun e w' => ∃ v, e = .returned v ∧ OwnI w' w.heap.size v (limI (Nat.gcd x y)) ∧ Below w.heap.size w w' := by
  go_enter Try.func61, Try.ntmps61
  go_wp2
  go_loop [0, 1] (fun xv yv => ∃ a b : Nat, xv = .int .i64 a ∧ yv = .int .i64 b ∧ a ≤ 9223372036854775807 ∧ b ≤ 9223372036854775807 ∧ Hid (Nat.gcd a b = Nat.gcd x y)) (fun _ yv => (intOf yv).toNat)
  case atStart => exact ⟨x, y, rfl, rfl, hx, hy, rfl⟩
  case round =>
    obtain ⟨a, b, rfl, rfl, ha, hb, HG⟩ := hrel
    by_cases h0 : 0 < b
    · have hm : ((a : Int) % (b : Int)) = ((a % b : Nat) : Int) := by simp
      have hmt : ((a : Int).tmod (b : Int)) = ((a % b : Nat) : Int) := by rw [Int.tmod_eq_emod_of_nonneg (by omega)]; simp
      have hbz : ((b : Int) == 0) = false := by simp; omega
      have hlt := Nat.mod_lt a h0
      have HS := Lib.hid ((gcd_step a b).trans HG.out)
      obtain ⟨r, hr⟩ : ∃ r, a % b = r := ⟨_, rfl⟩
      rw [hr] at hm hmt hlt HS
      clear hr
      go_wp2
      go_round
      case rel => exact ⟨b, r, by go_num, by go_num, hb, by omega, HS⟩
      case measure => simp [intOf]; omega
    · obtain rfl : b = 0 := by omega
      have HE : Hid (a = Nat.gcd x y) := by have := HG.out; rw [Nat.gcd_zero_right] at this; exact this
      go_wp2_with (go_at_call 16; refine (spec_natOf_nat a w ha).mono ?_; rintro e w1 ⟨v, rfl, o, b⟩)
      go_ret
      exact ⟨_, rfl, by rw [← HE.out]; exact o, b⟩

set_option maxHeartbeats 1000000 in
theorem spec_gcd (va vb : Value) (x y : Nat) (w : World) (ha : RowOf iV w va (limI x)) (hb : RowOf iV w vb (limI y)) (hx : nlen x ≤ 60) (hy : nlen y ≤ 60) :
    Calls Try.prog 49 #[va, vb] w fun e w' => ∃ v, e = .returned v ∧ OwnI w' w.heap.size v (limI (Nat.gcd x y)) ∧ Below w.heap.size w w' := by
  have RA := Lib.hid ha
  have RB := Lib.hid hb
  have hlx : ([] : List Int).length + (limI x).length ≤ 1099511627776 := by rw [limI_length]; simp; omega
  have hly : ([] : List Int).length + (limI y).length ≤ 1099511627776 := by rw [limI_length]; simp; omega
  obtain ⟨aa, ca, rfl, e1, e2, e3⟩ := ha
  obtain ⟨ab, cb, rfl, e4, e5, e6⟩ := hb
  clear e1 e2 e3 e4 e5 e6
  have HY := Lib.hid (limI_length y)
  rw [limI_length] at RA ⊢
  rw [limI_length] at RB ⊢
  have LA := Lib.hid (OwnI.lit0 w)
  have BA := Lib.hid ((Below.refl w.heap.size w).alloc (Nat.le_refl _) (.cells #[] 3))
  go_enter Try.func49, Try.ntmps49
  go_upto_region 2 with (at_builtin; refine append_ints rfl _ _ 22 Try.underlying22 rfl w.heap.size _ _ [] (limI x) rfl LA.out rfl (rowOf_below RA.out BA.out) hlx BA.out.size ?_; intro v1 w1 h1 hg1)
  have b1 : Below w.heap.size w w1 := BA.out.grown hg1 BA.out.size (fun k hk => (LA.out.lt k hk).1)
  have O1 := Lib.hid h1
  rw [List.nil_append] at O1
  have RB1 := Lib.hid (rowOf_below RB.out b1)
  have LB := Lib.hid (OwnI.lit0 w1)
  have BB := Lib.hid ((Below.refl w1.heap.size w1).alloc (Nat.le_refl _) (.cells #[] 3))
  clear h1 hg1 LA BA
  obtain ⟨z1, hz1⟩ : ∃ z1, z1 = v1 := ⟨_, rfl⟩
  subst hz1
  go_wp2_with (at_builtin; refine append_ints rfl _ _ 22 Try.underlying22 rfl w1.heap.size _ _ [] (limI y) rfl LB.out rfl (rowOf_below RB1.out BB.out) hly BB.out.size ?_; intro v2 w2 h2 hg2)
  have b2 : Below w1.heap.size w1 w2 := BB.out.grown hg2 BB.out.size (fun k hk => (LB.out.lt k hk).1)
  have O2 := Lib.hid (h2.base b1.size)
  rw [List.nil_append] at O2
  have O1b := Lib.hid (O1.out.below b2)
  have B2 := Lib.hid (b1.trans (b2.mono b1.size))
  clear h2 hg2 LB BB O1 RA RB RB1 b1 b2
  obtain ⟨h, hh⟩ : ∃ h, w.heap.size = h := ⟨_, rfl⟩
  rw [hh] at O1b O2 B2 ⊢
  clear HY hlx hly
  go_loopg [5, 6] y (fun gk xv yv wr => ∃ a : Nat, Hid (OwnI wr h xv (limI a)) ∧ Hid (OwnI wr h yv (limI gk)) ∧ nlen a ≤ 60 ∧ nlen gk ≤ 60 ∧ Hid (Nat.gcd a gk = Nat.gcd x y) ∧ Hid (Below h w wr))
  case atStart => exact ⟨x, O1b, O2, hx, hy, rfl, B2⟩
  case round =>
    obtain ⟨a, OX, OY, ha, hb, HG, HB⟩ := hrel
    obtain ⟨px, cx, rfl, a1, a2, a3⟩ := OX.out.row
    obtain ⟨py, cy, rfl, a4, a5, a6⟩ := OY.out.row
    clear a1 a2 a3 a4 a5 a6
    rw [limI_length] at OX ⊢
    rw [limI_length] at OY ⊢
    have hsz : h ≤ wr.heap.size := by have := HB.out.size; omega
    by_cases hz : gk = 0
    · subst hz
      have HE : Hid (a = Nat.gcd x y) := by have := HG.out; rw [Nat.gcd_zero_right] at this; exact this
      rw [nlen_zero] at OY ⊢
      go_wp2
      go_ret
      rw [hh]
      exact ⟨_, rfl, by rw [← HE.out]; exact OX.out, HB.out⟩
    · have hn1 := (nlen_pos_iff gk).2 (by omega)
      by_cases h3 : nlen a < 3
      · by_cases h4 : nlen gk < 3
        · have TN : Hid (∀ (z : Nat) (W' : World) (v : Value), nlen z < 3 → RowOf iV W' v (limI z) → nlen z ≤ 60 → Calls Try.prog 20 #[v] W' fun e w' => e = .returned (.tuple #[.int .i64 z, .bool true]) ∧ Below W'.heap.size W' w') := fun z W' v hz3 hr h60 => by
            have h1 := spec_natToInt v (limI z) W' hr
            have h2 : z ≤ 9223372036854775807 := by have := (nlen_le_iff 2 z).1 (by omega); rw [pw_succ, pw_one] at this; omega
            rw [natToIntV_yes ((nlen_le_iff 60 z).1 h60), intR_yes h2] at h1
            exact h1
          have ma : a ≤ 9223372036854775807 := by have := (nlen_le_iff 2 a).1 (by omega); rw [pw_succ, pw_one] at this; omega
          have mb : gk ≤ 9223372036854775807 := by have := (nlen_le_iff 2 gk).1 (by omega); rw [pw_succ, pw_one] at this; omega
          have T1 := Lib.hid (TN.out a wr _ h3 OX.out.row ha)
          have T2 := Lib.hid (fun (W' : World) (hW : Below wr.heap.size wr W') => TN.out gk W' _ h4 (rowOf_below OY.out.row hW) hb)
          have T3 := Lib.hid (fun (W' : World) => spec_plain a gk W' ma mb)
          go_upto_region 6 with (go_at_call 20; refine T1.out.mono ?_; rintro e w3 ⟨rfl, b3⟩)
          go_upto_region 7 with (go_at_call 20; refine (T2.out _ b3).mono ?_; rintro e w4 ⟨rfl, b4⟩)
          go_wp2_with (go_at_call 61; refine (T3.out _).mono ?_; rintro e w5 ⟨v5, rfl, o5, b5⟩)
          go_ret
          have s34 := Nat.le_trans hsz b3.size
          have s45 := Nat.le_trans s34 b4.size
          rw [hh]
          exact ⟨_, rfl, by rw [← HG.out]; exact o5.base s45, ((HB.out.trans (b3.mono hsz)).trans (b4.mono s34)).trans (b5.mono s45)⟩
        · have TD := Lib.hid (spec_div _ _ a gk wr OX.out.row OY.out.row (by omega) (by omega) (by omega))
          go_wp2_with (go_at_call 47; refine (TD.out).mono ?_; rintro e w3 ⟨v0, v1, rfl, o0, o1, ap, b3⟩)
          go_roundg (a % gk)
          case measure => exact Nat.mod_lt _ (by omega)
          case rel => exact ⟨gk, OY.out.below b3, o1.base hsz, hb, Nat.le_trans (nlen_mono (Nat.mod_le _ _)) ha, (gcd_step a gk).trans HG.out, HB.out.trans (b3.mono hsz)⟩
      · have TD := Lib.hid (spec_div _ _ a gk wr OX.out.row OY.out.row (by omega) (by omega) (by omega))
        go_wp2_with (go_at_call 47; refine (TD.out).mono ?_; rintro e w3 ⟨v0, v1, rfl, o0, o1, ap, b3⟩)
        go_roundg (a % gk)
        case measure => exact Nat.mod_lt _ (by omega)
        case rel => exact ⟨gk, OY.out.below b3, o1.base hsz, hb, Nat.le_trans (nlen_mono (Nat.mod_le _ _)) ha, (gcd_step a gk).trans HG.out, HB.out.trans (b3.mono hsz)⟩

end Go.Proofs.Ythddmilompcfaaa
