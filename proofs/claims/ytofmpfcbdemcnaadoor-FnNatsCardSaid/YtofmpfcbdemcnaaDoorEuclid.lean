/- euclidSteps of the program: some steps of Euclid's algorithm at once. -/
import Derived.Test.YtofmpfcbdemcnaaDoorDiv
import Derived.Test.YtofmpfcbdemcnaaDoorLead
import Derived.Test.YtofmpfcbdemcnaaDoorSteps
import Derived.Deep.RegionHeld3
namespace Go.Proofs.YtofmpfcbdemcnaaDoor
open Go.RowKit

attribute [local go_sem] Oper.semAt_some

theorem ten_pow {j : Nat} (h : j ≤ 9) : 10 ^ j * 10 ^ (9 - j) = 1000000000 := by
  rw [← Nat.pow_add, show j + (9 - j) = 9 by omega]
theorem ten_le {j : Nat} (h : j ≤ 9) : 10 ^ j ≤ 1000000000 := Nat.pow_le_pow_right (n := 10) (by omega) h
theorem gcd_step' (a b : Nat) : Nat.gcd b (a % b) = Nat.gcd a b := by rw [Nat.gcd_comm a b, Nat.gcd_rec b a, Nat.gcd_comm]
theorem top_dig {x k : Nat} (h : x < pw (k + 3)) : dig x (k + 2) = x / pw (k + 2) := by
  show x / pw (k + 2) % 1000000000 = _
  refine Nat.mod_eq_of_lt (Nat.div_lt_of_lt_mul ?_)
  rw [← pw_succ]; exact h

set_option maxHeartbeats 4000000 in
theorem impl_euclid (va vb : Value) (a b k : Nat) (w : World) (ha : RowOf iV w va (limI a)) (hb : RowOf iV w vb (limI b)) (hab : b ≤ a) (h3 : 3 ≤ nlen b) (hk : nlen a = k + 3) (h60 : nlen a ≤ 60) :
    Calls Tryd.prog 60 #[va, vb] w fun e w' => ∃ (v0 v1 : Value), (∃ A B : Nat, e = .returned (.tuple #[v0, v1]) ∧ RowOf iV w' v0 (limI A) ∧ RowOf iV w' v1 (limI B) ∧ Nat.gcd A B = Nat.gcd a b ∧ B ≤ A ∧ A ≤ a ∧ B < b) ∧ Below w.heap.size w w' := by
  have RA := Lib.hid ha
  have RB := Lib.hid hb
  have halt : a < pw (k + 3) := by rw [← hk]; exact lt_pw_nlen a
  have hblt : b < pw (k + 3) := Nat.lt_of_le_of_lt hab halt
  have hb0 : 0 < b := (nlen_pos_iff b).1 (by omega)
  have hdb : dig b (k + 2) ≤ dig a (k + 2) := by rw [top_dig halt, top_dig hblt]; exact Nat.div_le_div_right hab
  have hda := dig_lt a (k + 2)
  have LA := Lib.hid (fun (u c : Nat) (hu : u * c = 1000000000) (hd : dig a (k + 2) < u) (z : Int) (hz : z = (k : Int) + 2) (W' : World) (hW : Below w.heap.size w W') => hz ▸ impl_leading va a k u c W' (rowOf_below ha hW) hu halt hd (by omega))
  have LB := Lib.hid (fun (u c : Nat) (hu : u * c = 1000000000) (hd : dig a (k + 2) < u) (z : Int) (hz : z = (k : Int) + 2) (W' : World) (hW : Below w.heap.size w W') => hz ▸ impl_leading vb b k u c W' (rowOf_below hb hW) hu hblt (by omega) (by omega))
  have TD := Lib.hid (fun (W' : World) (hW : Below w.heap.size w W') => impl_divide va vb a b W' (rowOf_below ha hW) (rowOf_below hb hW) hb0 (by omega) (by have := nlen_mono hab; omega))
  have CB := Lib.hid (fun (T : Nat) (m n : Int) (W' : World) (hW : Below w.heap.size w W') (hm) (hn) (hT : (T : Int) = m * (a : Int) + n * (b : Int)) (hTa : T ≤ a) => impl_combine va vb a b T m n W' (rowOf_below ha hW) (rowOf_below hb hW) hm hn hT (by have := nlen_mono hTa; omega) (by omega) (by have := nlen_mono hab; omega))
  have HLE := Lib.hid (fun (u c : Nat) (hu : u * c = 1000000000) (hd : dig a (k + 2) < u) => lead_eq hu halt hd)
  obtain ⟨aa, ca, rfl, e1, e2, e3⟩ := ha
  obtain ⟨ab, cb, rfl, e4, e5, e6⟩ := hb
  clear e1 e2 e3 e4 e5 e6
  rw [limI_length] at RA LA TD CB ⊢
  rw [limI_length] at RB LB TD CB ⊢
  rw [hk] at RA LA TD CB ⊢
  obtain ⟨b1, o1, rfl, ct⟩ := row_limb RA.out (k := k + 2) (by omega)
  have HD := Lib.hid (rfl : dig a (k + 2) = dig a (k + 2))
  obtain ⟨d, hd⟩ : ∃ d, dig a (k + 2) = d := ⟨_, rfl⟩
  rw [hd] at ct hda LA LB HLE
  have e1 : ((k : Int) + 3 - 1).toNat = k + 2 := by omega
  clear hd hdb HD
  go_enter Tryd.func60, Tryd.ntmps60
  go_wp2
  go_loop [7] (fun v => ∃ j u : Nat, j ≤ 9 ∧ v = .int .i64 u ∧ Hid (u = 10 ^ j) ∧ 1 ≤ u ∧ u ≤ 1000000000) (fun v => (1000000000 - intOf v).toNat)
  case atStart => exact ⟨0, 1, by omega, rfl, rfl, by omega, by omega⟩
  case round =>
    obtain ⟨j, u, hj, rfl, HU, hu1, hu9⟩ := hrel
    by_cases hud : u ≤ d
    · have hj9 : j < 9 := by
        rcases Nat.lt_or_ge j 9 with h | h
        · exact h
        · have h9 : j = 9 := by omega
          have := HU.out; rw [h9] at this; simp at this; omega
      have HU2 : Hid (u * 10 = 10 ^ (j + 1)) := by unfold Hid; rw [HU.out, Nat.pow_succ]
      have hle : u * 10 ≤ 1000000000 := by rw [HU2.out]; exact ten_le (by omega)
      go_wp2
      go_round
      case rel => exact ⟨j + 1, u * 10, by omega, by go_num, HU2, by omega, hle⟩
      case measure => simp [intOf]; omega
    · have hc : u * 10 ^ (9 - j) = 1000000000 := by rw [HU.out]; exact ten_pow hj
      have hdu : d < u := by omega
      obtain ⟨S, hS⟩ : ∃ S, pw k * u = S := ⟨_, rfl⟩
      have hS0 : 0 < S := by rw [← hS]; exact Nat.mul_pos (pw_pos k) hu1
      have hle := HLE.out u _ hc hdu
      rw [hle.1, hS] at hle
      have LA1 := Lib.hid (LA.out u _ hc hdu)
      have LB1 := Lib.hid (LB.out u _ hc hdu)
      rw [hS] at LA1 LB1
      have hxy : b / S ≤ a / S := Nat.div_le_div_right hab
      have hx18 := hle.2.1
      have TS := Lib.hid (fun W' => impl_steps a b S (a / S) (b / S) (a % S) (b % S) W' hS0 (Nat.div_add_mod' a S).symm (Nat.mod_lt _ hS0) (Nat.div_add_mod' b S).symm (Nat.mod_lt _ hS0) hab hxy hx18)
      have HABL := Lib.hid hab
      clear hle hS hc LA LB HLE
      obtain ⟨x0, hx0⟩ : ∃ x0, a / S = x0 := ⟨_, rfl⟩
      obtain ⟨y0, hy0⟩ : ∃ y0, b / S = y0 := ⟨_, rfl⟩
      rw [hx0] at LA1 TS
      rw [hy0] at LB1 TS
      clear hx0 hy0 hxy hx18
      go_upto_region 5 with fail
      clear e1 ct
      go_cut [8, 9] from 15 (fun q8 q9 wc => ∃ (p : Nat) (f0 f1 s0 s1 : Int), q8 = .pointer (some ⟨p, 0, none⟩) ∧ q9 = .pointer (some ⟨p + 1, 0, none⟩) ∧ Hid (∃ (x y : Int) (A B : Nat), Leh a b S x0 y0 x y f0 f1 s0 s1 A B) ∧ Hid (Box2 wc p f0 f1) ∧ Hid (Box2 wc (p + 1) s0 s1) ∧ Hid (Below w.heap.size w wc))
      case first =>
        go_wp2_with (first
          | (go_at_call 76; refine (TS.out _).mono ?_; rintro e w3 ⟨f0, f1, s0, s1, rfl, hL, b3⟩)
          | (have := q1; go_at_call 77; refine (LB1.out _ (by omega) _ (below_drewN (Below.refl _ _) _)).mono ?_; rintro e w' ⟨rfl, q2, rfl⟩)
          | (go_at_call 77; refine (LA1.out _ (by omega) _ (Below.refl _ _)).mono ?_; rintro e w' ⟨rfl, q1, rfl⟩))
        go_meet
        have b3' : Below w.heap.size w w3 := (below_drewN (Below.refl _ w) (q1 + q2)).trans b3
        case rel => exact ⟨w3.heap.size, f0, f1, s0, s1, rfl, rfl, hL, (Box2.new w3 f0 f1).alloc _, (by have := Box2.new (w3.alloc (.cells #[.int .i64 f0, .int .i64 f1] 91)) s0 s1; simp only [World.size_alloc] at this; exact this), ((b3'.alloc b3'.size _).alloc (Nat.le_trans b3'.size (by simp)) _)⟩
      obtain ⟨p, f0, f1, s0, s1, rfl, rfl, hL, K2, K3, HB⟩ := hcut
      clear LA1 LB1 TS
      obtain ⟨x, y, A, B, HL⟩ := hL.out
      clear hL
      have c30 := K3.out.cell0
      by_cases hs0 : s0 = 0
      · have e0 : (s0 == 0) = true := by simp [hs0]
        go_wp2_with (go_at_call 36; refine (TD.out _ HB.out).mono ?_; rintro e w4 ⟨v0, v1, rfl, o0, o1, ap, b4⟩)
        go_ret2
        exact ⟨_, _, ⟨b, a % b, rfl, rowOf_below (rowOf_below RB.out HB.out) b4, o1.row, gcd_step' a b, Nat.le_of_lt (Nat.mod_lt _ hb0), HABL.out, Nat.mod_lt _ hb0⟩, HB.out.trans (b4.mono HB.out.size)⟩
      · have e0 : (s0 == 0) = false := by simp [hs0]
        have FIN : Hid (∀ T T' : Nat, (T : Int) = f0 * (a : Int) + f1 * (b : Int) → (T' : Int) = s0 * (a : Int) + s1 * (b : Int) → Nat.gcd T T' = Nat.gcd a b ∧ T' ≤ T ∧ T ≤ a ∧ T' < b) := fun T T' h1 h2 => by
          have hA : T = A := by have := HL.hA; omega
          have hB : T' = B := by have := HL.hB; omega
          subst hA hB
          refine ⟨HL.gcd, HL.BA, HL.Aa, ?_⟩
          rcases HL.less with h | h
          · exact (hs0 h).elim
          · exact h
        have hAa := HL.Aa
        have hBa : B ≤ a := Nat.le_trans HL.BA HL.Aa
        have C : Hid (∀ (m n : Int) (W' : World), Below wc.heap.size wc W' → ((m = f0 ∧ n = f1) ∨ (m = s0 ∧ n = s1)) → Calls Tryd.prog 70 #[.slice (some ⟨b1, o1, none⟩) (k + 3) ca, .int .i64 m, .slice ab (nlen b) cb, .int .i64 n] W' fun e w' => ∃ v, e = .returned v ∧ ∃ T : Nat, RowOf iV w' v (limI T) ∧ (T : Int) = m * (a : Int) + n * (b : Int) ∧ (∀ u l, RowOf iV W' u l → RowOf iV w' u l) ∧ Below wc.heap.size wc w') := fun m n W' hW hmn => by
          have hW2 := HB.out.trans (hW.mono HB.out.size)
          rcases hmn with ⟨rfl, rfl⟩ | ⟨rfl, rfl⟩
          · refine (CB.out A m n W' hW2 (by have := HL.f0b; omega) (by have := HL.f1b; omega) HL.hA hAa).mono ?_
            rintro e w' ⟨v, rfl, o, b⟩
            exact ⟨v, rfl, A, o.row, HL.hA, fun u l h => rowOf_below h b, hW.trans (b.mono hW.size)⟩
          · refine (CB.out B m n W' hW2 (by have := HL.s0b; omega) (by have := HL.s1b; omega) HL.hB hBa).mono ?_
            rintro e w' ⟨v, rfl, o, b⟩
            exact ⟨v, rfl, B, o.row, HL.hB, fun u l h => rowOf_below h b, hW.trans (b.mono hW.size)⟩
        have c20 := K2.out.cell0
        have c21 := K2.out.cell1
        have c31 := K3.out.cell1
        have HP2 := Lib.hid K2.out.lt
        have HP3 := Lib.hid K3.out.lt
        clear HL hAa hBa hs0 CB TD
        go_upto_region 9 with fail
        go_region_held3 (fun w' => w'.cell? ⟨p, 0, none⟩ = some (.int .i64 f0) ∧ w'.cell? ⟨p, 1, none⟩ = some (.int .i64 f1) ∧ w'.cell? ⟨p + 1, 0, none⟩ = some (.int .i64 s0) ∧ w'.cell? ⟨p + 1, 1, none⟩ = some (.int .i64 s1)) (first | exact ⟨g20, g21, g30, g31⟩ | exact ⟨d20, d21, d30, d31⟩ | exact ⟨c20, c21, c30, c31⟩)
          (first
          | (have := hr7; go_at_call 70; refine (C.out _ _ _ (by first | exact hbb | exact hbb.drew) (by first | exact .inl ⟨rfl, rfl⟩ | exact .inr ⟨rfl, rfl⟩)).mono ?_; rintro e w8 ⟨v8, rfl, T8, hr8, ht8, hk8, hb8⟩; have g20 := (hb8.cell (p := ⟨p, 0, none⟩) HP2.out).trans c20; have g21 := (hb8.cell (p := ⟨p, 1, none⟩) HP2.out).trans c21; have g30 := (hb8.cell (p := ⟨p + 1, 0, none⟩) HP3.out).trans c30; have g31 := (hb8.cell (p := ⟨p + 1, 1, none⟩) HP3.out).trans c31)
          | (go_at_call 70; refine (C.out _ _ _ (by first | exact Below.refl _ _ | exact (Below.refl _ _).drew) (by first | exact .inl ⟨rfl, rfl⟩ | exact .inr ⟨rfl, rfl⟩)).mono ?_; rintro e w7 ⟨v7, rfl, T7, hr7, ht7, hk7, hbb⟩; have d20 := (hbb.cell (p := ⟨p, 0, none⟩) HP2.out).trans c20; have d21 := (hbb.cell (p := ⟨p, 1, none⟩) HP2.out).trans c21; have d30 := (hbb.cell (p := ⟨p + 1, 0, none⟩) HP3.out).trans c30; have d31 := (hbb.cell (p := ⟨p + 1, 1, none⟩) HP3.out).trans c31))
        all_goals go_wp2
        all_goals go_ret2
        all_goals first
          | exact ⟨_, _, ⟨T7, T8, rfl, hk8 _ _ hr7, hr8, FIN.out _ _ ht7 ht8⟩, HB.out.trans (hb8.mono HB.out.size)⟩
          | exact ⟨_, _, ⟨T8, T7, rfl, hr8, hk8 _ _ hr7, FIN.out _ _ ht8 ht7⟩, HB.out.trans (hb8.mono HB.out.size)⟩

end Go.Proofs.YtofmpfcbdemcnaaDoor
