/- Sums: Add SpecAdd Mul MulLaw Back ToInt Compare CmpLaw ToIntLaw. -/
import Derived.Test.YtlepgkkpopjgoaaGreatYBase
import Derived.Test.YtlepgkkpopjgoaaGreatYNumb
import Derived.RangeFuncBox
import Derived.RangeFuncNested
import Derived.RangeFuncBound
import Derived.RangeFuncCalls
import Derived.RangeFuncLeaves
import Derived.Shelf.Abstract
import Derived.Shelf.RegionOpen
import Derived.WalkKit
import Derived.OwnWalkIn
import Derived.TacticsInMore
import Derived.LoopNIn
import Derived.LoopIn
namespace Go.Proofs.YtlepgkkpopjgoaaGreat
set_option maxRecDepth 100000
set_option linter.unusedVariables false
set_option linter.unusedSimpArgs false
open Go.RowKit
def digF (x : Nat) : Nat → Int := fun i => (dig x i : Int)
theorem limI_take {T n : Nat} (h : nlen T ≤ n) : (listF n (digF T)).take (nlen T) = limI T := listF_take h
theorem row_limb {w : World} {a : Option Addr} {n c x k : Nat} (h : RowOf iV w (.slice a n c) (limI x)) (hk : k < nlen x) : ∃ b o, a = some ⟨b, o, none⟩ ∧ w.cell? ⟨b, o + k, none⟩ = some (.int .i64 (dig x k)) := by
 obtain ⟨_, _, e, _, _, hr⟩ := h
 injection e with e1 e2 e3
 subst e1 e3
 obtain ⟨b, o, e, hx⟩ := hr k (by rw [limI_length]; exact hk)
 rw [limI_get] at hx
 exact ⟨b, o, e, hx⟩
set_option maxHeartbeats 400000 in
theorem at_dig (v : Value) (x i : Nat) (w : World) (h : RowOf iV w v (limI x)) (hi : i ≤ 1099511627776) :
  Calls Tryz.prog 194 #[v, .int .i64 i] w fun e w' => e = .returned (.int .i64 (dig x i)) ∧ w' = w := by
 obtain ⟨a, cap, rfl, hc, hm, hr⟩ := h
 have R := Lib.hid hr
 clear hr
 by_cases hlt : i < nlen x
 ·obtain ⟨b, o, rfl, hx⟩ := R.out i (by rw [limI_length]; exact hlt)
  rw [limI_get] at hx
  unfold iV at hx
  rw [limI_length]
  go_enter Tryz.func194, Tryz.ntmps194
  go_wp2
  go_ret
  exact ⟨rfl, rfl⟩
 ·rw [limI_length, dig_past (by omega)]
  go_enter Tryz.func194, Tryz.ntmps194
  go_wp2
  go_ret
  exact ⟨rfl, rfl⟩
theorem trim_more {T k : Nat} (h : nlen T ≤ k) (hk : 0 < k) (h0 : dig T (k - 1) = 0) : nlen T ≤ k - 1 := by
 rw [nlen_le_iff] at h ⊢
 have e : k = (k - 1) + 1 := by omega
 rw [e] at h
 exact dig_top_zero h h0
theorem trim_done {T k : Nat} (h : nlen T ≤ k) (hk : 0 < k) (h0 : dig T (k - 1) ≠ 0) : k = nlen T := by
 rw [nlen_le_iff] at h
 have e : k = (k - 1) + 1 := by omega
 rw [e] at h
 have := nlen_of_top h h0
 omega
set_option maxHeartbeats 400000 in
theorem impl_trimmed (v : Value) (T n B : Nat) (w : World) (h : OwnI w B v (listF n (digF T))) (hT : nlen T ≤ n) :
  Calls Tryz.prog 168 #[v] w fun e w' => ∃ v', e = .returned v' ∧ OwnI w B v' (limI T) ∧ (v' = v ∨ v'.ownBlock = v.ownBlock) ∧ w' = w := by
 rcases h.form with ⟨rfl, hl⟩ | ⟨g, c, hv, hB, hg⟩
 ·have hn : n = 0 := by have := congrArg List.length hl; rw [listF_length] at this; simpa using this
  have hT0 : limI T = [] := by
   have : nlen T = 0 := by omega
   unfold limI; rw [this]; rfl
  have HT := Lib.hid hT0
  clear hT0 hl hT h hn
  go_enter Tryz.func168, Tryz.ntmps168
  go_wp2
  go_loop [0] (fun sv => sv = .slice none 0 0) (fun _ => 0)
  case atStart => rfl
  case round =>
   subst hrel
   go_wp2
   go_ret
   exact ⟨_, rfl, by rw [HT.out]; exact OwnI.nil _ _, .inl rfl, rfl⟩
 ·rw [listF_length] at hv
  subst hv
  have hcm := h.cap_le
  unfold maxLen at hcm
  have H := Lib.hid h
  clear h hg
  go_enter Tryz.func168, Tryz.ntmps168
  go_wp2
  go_loop [0] (fun sv => ∃ k : Nat, k ≤ n ∧ nlen T ≤ k ∧ sv = .slice (some ⟨g, 0, none⟩) k c) (fun sv => match sv with | .slice _ k _ => k | _ => 0)
  case atStart => exact ⟨n, Nat.le_refl _, hT, rfl⟩
  case round =>
   obtain ⟨k, hk, hTk, rfl⟩ := hrel
   by_cases hp : 0 < k
   ·have hcl := H.out.cell (k - 1) (by rw [listF_length]; omega)
    rw [listF_get] at hcl
    unfold digF at hcl
    have e1 : ((k : Int) - 1).toNat = k - 1 := by omega
    have HM := Lib.hid (trim_more hTk hp)
    have HD := Lib.hid (trim_done hTk hp)
    obtain ⟨d, hd⟩ : ∃ d, dig T (k - 1) = d := ⟨_, rfl⟩
    rw [hd] at hcl HM HD
    clear hd
    by_cases h0 : d = 0
    ·have HM2 := Lib.hid (HM.out h0)
     subst h0
     go_wp2
     go_round
     case rel => exact ⟨k - 1, by omega, HM2.out, by go_num⟩
     case measure => simp; omega
    ·have HD2 := Lib.hid (HD.out h0)
     have hb : ((d : Int) == 0) = false := by simp; exact h0
     clear h0
     go_wp2
     go_ret
     refine ⟨_, rfl, ?_, .inr rfl, rfl⟩
     have := H.out.take hk
     rw [HD2.out, limI_take (by have := HD2.out; omega)] at this
     have e := HD2.out
     rw [← e] at this
     exact this
   ·obtain rfl : k = 0 := by omega
    have HT : Hid (limI T = []) := by
     unfold Hid
     have : nlen T = 0 := by omega
     unfold limI; rw [this]; rfl
    go_wp2
    go_ret
    refine ⟨_, rfl, ?_, .inr rfl, rfl⟩
    have := H.out.take (Nat.zero_le _)
    rw [List.take_zero] at this
    rw [HT.out]
    exact this
def capL (T : Nat) : List Int := if T < pw 60 then limI T else []
theorem capL_yes {T : Nat} (h : T < pw 60) : capL T = limI T := if_pos h
theorem capL_no {T : Nat} (h : ¬ T < pw 60) : capL T = [] := if_neg h
theorem capL_len (T : Nat) : (capL T).length ≤ 60 := by
 unfold capL
 split
 ·rw [limI_length, nlen_le_iff]; assumption
 ·simp
theorem tmod_neg {t : Int} (h : t < 0) : (t % 1000000000 = 0 ∧ t.tmod 1000000000 = 0 ∧ t.tdiv 1000000000 = t / 1000000000) ∨ (0 < t % 1000000000 ∧ t.tmod 1000000000 = t % 1000000000 - 1000000000 ∧ t.tdiv 1000000000 = t / 1000000000 + 1) := by
 obtain ⟨n, hn⟩ := Int.eq_ofNat_of_zero_le (show 0 ≤ -t by omega)
 obtain rfl : t = -(n : Int) := by omega
 have a : (-(n : Int)).tmod 1000000000 = -((n % 1000000000 : Nat) : Int) := by rw [Int.neg_tmod]; rfl
 have b : (-(n : Int)).tdiv 1000000000 = -((n / 1000000000 : Nat) : Int) := by rw [Int.neg_tdiv]; rfl
 rw [a, b]
 omega
theorem mul_small {m : Int} {x i : Nat} (h : -1000000000 ≤ m ∧ m ≤ 1000000000) : -1000000000000000000 ≤ m * (dig x i : Int) ∧ m * (dig x i : Int) ≤ 1000000000000000000 := by
 have h2 := dig_lt x i
 have a : m * (dig x i : Int) ≤ 1000000000 * (dig x i : Int) := Int.mul_le_mul_of_nonneg_right h.2 (by omega)
 have b : -1000000000 * (dig x i : Int) ≤ m * (dig x i : Int) := Int.mul_le_mul_of_nonneg_right h.1 (by omega)
 omega
theorem com_step {m n : Int} {x y T i : Nat} (hT : (T : Int) = m * (x : Int) + n * (y : Int)) {c p q t : Int} (hc : c = comC m n x y i) (hp : m * (dig x i : Int) = p) (hq : n * (dig y i : Int) = q) (ht : c + (p + q) = t) : t % 1000000000 = (dig T i : Int) ∧ t / 1000000000 = comC m n x y (i + 1) := by
 have e : comC m n x y i + m * (dig x i : Int) + n * (dig y i : Int) = t := by rw [← hc, hp, hq]; omega
 exact ⟨by rw [com_dig m n x y i T hT, e], by rw [comC_succ, e]⟩
set_option maxHeartbeats 2000000 in
theorem impl_combine (va vb : Value) (x y T : Nat) (m n : Int) (w : World) (ha : RowOf iV w va (limI x)) (hb : RowOf iV w vb (limI y)) (hm : -1000000000 ≤ m ∧ m ≤ 1000000000) (hn : -1000000000 ≤ n ∧ n ≤ 1000000000)
  (hT : (T : Int) = m * (x : Int) + n * (y : Int)) (hlt : nlen T ≤ max (nlen x) (nlen y) + 1) (hx : nlen x ≤ 1000) (hy : nlen y ≤ 1000) :
  Calls Tryz.prog 187 #[va, .int .i64 m, vb, .int .i64 n] w fun e w' => ∃ v, e = .returned v ∧ OwnI w' w.heap.size v (limI T) ∧ Below w.heap.size w w' := by
 have RA := Lib.hid ha
 have RB := Lib.hid hb
 obtain ⟨aa, ca, rfl, h1, h2, h3⟩ := ha
 obtain ⟨ab, cb, rfl, h4, h5, h6⟩ := hb
 clear h1 h2 h3 h4 h5 h6
 rw [limI_length] at RA RB ⊢
 rw [limI_length]
 have HT := Lib.hid hT
 have hC := fun i => comC_bound m n x y i 2000000000 (by omega)
 have HC := Lib.hid hC
 have hP := fun i => mul_small (x := x) (i := i) hm
 have hQ := fun i => mul_small (x := y) (i := i) hn
 have HP := Lib.hid hP
 have HQ := Lib.hid hQ
 clear hT hm hn hC hP hQ
 obtain ⟨nx, hnx⟩ : ∃ nx, nlen x = nx := ⟨_, rfl⟩
 obtain ⟨ny, hny⟩ : ∃ ny, nlen y = ny := ⟨_, rfl⟩
 rw [hnx, hny] at hlt
 rw [hnx] at hx RA ⊢
 rw [hny] at hy RB ⊢
 clear hnx hny
 obtain ⟨N, hN⟩ : ∃ N, (nx < ny ∧ N = ny) ∨ (¬ nx < ny ∧ N = nx) := by
  by_cases h : nx < ny
  ·exact ⟨_, .inl ⟨h, rfl⟩⟩
  ·exact ⟨_, .inr ⟨h, rfl⟩⟩
 have HL : Hid (nlen T ≤ N + 1) := by unfold Hid; omega
 clear hlt
 rcases hN with ⟨hc, hN⟩ | ⟨hc, hN⟩
 all_goals
  subst hN
  have hmk := make_limbs (N + 1) (by omega)
  rw [show ((N + 1 : Nat) : Int) = (N : Int) + 1 by simp] at hmk
  have HO := Lib.hid (zeroObj_own w w.heap.size (N + 1) (Nat.le_refl _) (by omega))
  have HB := Lib.hid ((Below.refl w.heap.size w).alloc (Nat.le_refl _) (zeroObj (N + 1)))
  go_enter Tryz.func187, Tryz.ntmps187
  go_wp2
  clear hmk
  generalize w.alloc (zeroObj (N + 1)) = W1 at HO HB ⊢
  obtain ⟨g, hg⟩ : ∃ g, w.heap.size = g := ⟨_, rfl⟩
  rw [hg] at HO HB ⊢
  have HG := Lib.hid hg
  clear hg
  go_loopw [10, 21] (fun cv iv wr => ∃ (k : Nat) (c : Int), k ≤ N + 1 ∧ iv = .int .i64 k ∧ cv = .int .i64 c ∧ Hid (c = comC m n x y k) ∧ Hid (OwnI wr g (.slice (some ⟨g, 0, none⟩) (N + 1) (N + 1)) (fillU (N + 1) k (digF T) (fun _ => 0))) ∧ Hid (Below g w wr)) (fun _ iv _ => N + 1 - (intOf iv).toNat)
  case atStart => exact ⟨0, 0, Nat.zero_le _, rfl, rfl, (comC_zero m n x y).symm, by rw [fillU_zero]; exact HO, HB⟩
  case round =>
   obtain ⟨k, c, hk, rfl, rfl, HCk, HK, HBk⟩ := hrel
   by_cases hlt : k < N + 1
   ·have hcb : -2000000000 ≤ c ∧ c ≤ 2000000000 := by rw [HCk.out]; exact HC.out k
    obtain ⟨p, hp⟩ : ∃ p, m * (dig x k : Int) = p := ⟨_, rfl⟩
    obtain ⟨q, hq⟩ : ∃ q, n * (dig y k : Int) = q := ⟨_, rfl⟩
    obtain ⟨t, ht⟩ : ∃ t, c + (p + q) = t := ⟨_, rfl⟩
    have hpb := HP.out k
    have hqb := HQ.out k
    rw [hp] at hpb
    rw [hq] at hqb
    obtain ⟨hpb1, hpb2⟩ := hpb
    obtain ⟨hqb1, hqb2⟩ := hqb
    obtain ⟨hcb1, hcb2⟩ := hcb
    have HS := Lib.hid (com_step HT.out HCk.out hp hq ht)
    have RA1 := Lib.hid (rowOf_below RA.out (by rw [HG.out]; exact HBk.out))
    have RB1 := Lib.hid (rowOf_below RB.out (by rw [HG.out]; exact HBk.out))
    obtain ⟨dx, hdx⟩ : ∃ dx, dig x k = dx := ⟨_, rfl⟩
    obtain ⟨dy, hdy⟩ : ∃ dy, dig y k = dy := ⟨_, rfl⟩
    have HDX := Lib.hid hdx
    have HDY := Lib.hid hdy
    rw [hdx] at hp
    rw [hdy] at hq
    have hcl := HK.out.cell k (by rw [fillU_length]; exact hlt)
    have hfz := HK.out.frozen k
    clear hdx hdy
    go_wp2_with fail
    refine (at_dig _ x k _ RA1.out (by omega)).mono ?_
    rintro e w1 ⟨rfl, rfl⟩
    rw [HDX.out]
    go_wp2_with fail
    refine (at_dig _ y k _ RB1.out (by omega)).mono ?_
    rintro e w1 ⟨rfl, rfl⟩
    rw [HDY.out]
    have HRel := Lib.hid (show ∀ W' : World, OwnI W' g (.slice (some ⟨g, 0, none⟩) (N + 1) (N + 1)) ((fillU (N + 1) k (digF T) (fun _ => 0)).set k (t % 1000000000)) → OwnI W' g (.slice (some ⟨g, 0, none⟩) (N + 1) (N + 1)) (fillU (N + 1) (k + 1) (digF T) (fun _ => 0)) from fun W' h => by
     rw [HS.out.1] at h
     have e := fillU_set (F := digF T) (G := fun _ => 0) hlt
     unfold digF at e h ⊢
     rw [e] at h
     exact h)
    by_cases h0 : 0 ≤ t
    ·have HO1 := Lib.hid (HRel.out _ (HK.out.set k (t % 1000000000)))
     have HB1 := Lib.hid (HBk.out.setCell (p := ⟨g, k, none⟩) (Nat.le_refl _) (.int .i64 (t % 1000000000)))
     go_wp2
     go_roundw
     case rel => exact ⟨k + 1, t / 1000000000, by omega, by go_num, rfl, HS.out.2, HO1, HB1⟩
     case measure => simp [intOf]; omega
    ·rcases tmod_neg (show t < 0 by omega) with ⟨z0, z1, z2⟩ | ⟨z0, z1, z2⟩
     ·have HO1 := Lib.hid (HRel.out _ (HK.out.set k (t % 1000000000)))
      rw [z0] at HO1
      have HB1 := Lib.hid (HBk.out.setCell (p := ⟨g, k, none⟩) (Nat.le_refl _) (.int .i64 0))
      have HZ := Lib.hid z0
      clear z0
      go_wp2
      go_roundw
      case rel => exact ⟨k + 1, t / 1000000000, by omega, by go_num, rfl, HS.out.2, HO1, HB1⟩
      case measure => simp [intOf]; omega
     ·obtain ⟨r, hr⟩ : ∃ r, t % 1000000000 = r := ⟨_, rfl⟩
      rw [hr] at z0 z1 HRel
      have hr1 : r < 1000000000 := by omega
      have HO1 := Lib.hid (HRel.out _ (by have h := (HK.out.set k (r - 1000000000)).set k r; rw [List.set_set] at h; exact h))
      have HB1 := Lib.hid ((HBk.out.setCell (p := ⟨g, k, none⟩) (Nat.le_refl _) (.int .i64 (r - 1000000000))).setCell (p := ⟨g, k, none⟩) (Nat.le_refl _) (.int .i64 r))
      have hadd : r - 1000000000 + 1000000000 = r := by omega
      have hsub : t / 1000000000 + 1 - 1 = t / 1000000000 := by omega
      clear hr
      go_wp2
      go_roundw
      case rel => exact ⟨k + 1, t / 1000000000, by omega, by go_num, rfl, HS.out.2, HO1, HB1⟩
      case measure => simp [intOf]; omega
   ·obtain rfl : k = N + 1 := by omega
    have HO1 := HK.out
    rw [fillU_full] at HO1
    have HT1 := Lib.hid (impl_trimmed _ T (N + 1) g wr HO1 HL.out)
    clear HO1
    go_wp2_with fail
    refine HT1.out.mono ?_
    rintro e w2 ⟨v', rfl, o, _, rfl⟩
    have O := Lib.hid o
    clear o
    go_wp2
    go_ret
    exact ⟨_, rfl, by rw [HG.out]; exact O.out, by rw [HG.out]; exact HBk.out⟩
theorem impl_plus (va vb : Value) (x y : Nat) (w : World) (ha : RowOf iV w va (limI x)) (hb : RowOf iV w vb (limI y)) (hx : nlen x ≤ 1000) (hy : nlen y ≤ 1000) :
  Calls Tryz.prog 190 #[va, vb] w fun e w' => ∃ v, e = .returned v ∧ OwnI w' w.heap.size v (limI (x + y)) ∧ Below w.heap.size w w' := by
 have H := Lib.hid (impl_combine va vb x y (x + y) 1 1 w ha hb (by omega) (by omega) (by omega) (by
  rw [nlen_le_iff, pw_succ]
  have h1 := Nat.lt_of_lt_of_le (lt_pw_nlen x) (pw_mono (Nat.le_max_left (nlen x) (nlen y)))
  have h2 := Nat.lt_of_lt_of_le (lt_pw_nlen y) (pw_mono (Nat.le_max_right (nlen x) (nlen y)))
  omega) hx hy)
 obtain ⟨aa, ca, rfl, h1, h2, h3⟩ := ha
 obtain ⟨ab, cb, rfl, h4, h5, h6⟩ := hb
 clear h1 h2 h3 h4 h5 h6
 go_enter Tryz.func190, Tryz.ntmps190
 go_wp2_with fail
 refine H.out.mono ?_
 rintro e w1 ⟨v, rfl, o, b⟩
 have O := Lib.hid o
 clear o
 go_wp2
 go_ret
 exact ⟨_, rfl, O.out, b⟩
theorem impl_minus (va vb : Value) (x y : Nat) (w : World) (ha : RowOf iV w va (limI x)) (hb : RowOf iV w vb (limI y)) (hxy : y ≤ x) (hx : nlen x ≤ 1000) (hy : nlen y ≤ 1000) :
  Calls Tryz.prog 191 #[va, vb] w fun e w' => ∃ v, e = .returned v ∧ OwnI w' w.heap.size v (limI (x - y)) ∧ Below w.heap.size w w' := by
 have H := Lib.hid (impl_combine va vb x y (x - y) 1 (-1) w ha hb (by omega) (by omega) (by omega) (by
  rw [nlen_le_iff, pw_succ]
  have h1 := Nat.lt_of_lt_of_le (lt_pw_nlen x) (pw_mono (Nat.le_max_left (nlen x) (nlen y)))
  omega) hx hy)
 obtain ⟨aa, ca, rfl, h1, h2, h3⟩ := ha
 obtain ⟨ab, cb, rfl, h4, h5, h6⟩ := hb
 clear h1 h2 h3 h4 h5 h6
 go_enter Tryz.func191, Tryz.ntmps191
 go_wp2_with fail
 refine H.out.mono ?_
 rintro e w1 ⟨v, rfl, o, b⟩
 have O := Lib.hid o
 clear o
 go_wp2
 go_ret
 exact ⟨_, rfl, O.out, b⟩
end Go.Proofs.YtlepgkkpopjgoaaGreat
namespace Go.Proofs.YtlepgkkpopjgoaaGreat
set_option maxRecDepth 100000
set_option linter.unusedVariables false
set_option linter.unusedSimpArgs false
open Go.RowKit
set_option maxHeartbeats 400000 in
theorem spec_trim (v : Value) (T n B : Nat) (w : World) (h : OwnI w B v (listF n (digF T))) (hT : nlen T ≤ n) :
  Calls Tryz.prog 157 #[v] w fun e w' => ∃ v', e = .returned v' ∧ OwnI w B v' (limI T) ∧ w' = w := by
 rcases h.form with ⟨rfl, hl⟩ | ⟨g, c, hv, hB, hg⟩
 ·have hn : n = 0 := by have := congrArg List.length hl; rw [listF_length] at this; simpa using this
  have hT0 : limI T = [] := by
   have : nlen T = 0 := by omega
   unfold limI; rw [this]; rfl
  have HT := Lib.hid hT0
  clear hT0 hl hT h hn
  go_enter Tryz.func157, Tryz.ntmps157
  go_wp2
  go_loop [3] (fun sv => sv = .int .i64 0) (fun _ => 0)
  case atStart => rfl
  case round =>
   subst hrel
   go_wp2
   go_ret
   exact ⟨_, rfl, by rw [HT.out]; exact OwnI.nil _ _, rfl⟩
 ·rw [listF_length] at hv
  subst hv
  have hcm := h.cap_le
  unfold maxLen at hcm
  have H := Lib.hid h
  clear h hg
  go_enter Tryz.func157, Tryz.ntmps157
  go_wp2
  go_loop [3] (fun sv => ∃ k : Nat, k ≤ n ∧ nlen T ≤ k ∧ sv = .int .i64 k) (fun sv => (intOf sv).toNat)
  case atStart => exact ⟨n, Nat.le_refl _, hT, rfl⟩
  case round =>
   obtain ⟨k, hk, hTk, rfl⟩ := hrel
   by_cases hp : 0 < k
   ·have hcl := H.out.cell (k - 1) (by rw [listF_length]; omega)
    rw [listF_get] at hcl
    unfold digF at hcl
    have e1 : ((k : Int) - 1).toNat = k - 1 := by omega
    have HM := Lib.hid (trim_more hTk hp)
    have HD := Lib.hid (trim_done hTk hp)
    obtain ⟨d, hd⟩ : ∃ d, dig T (k - 1) = d := ⟨_, rfl⟩
    rw [hd] at hcl HM HD
    clear hd
    by_cases h0 : d = 0
    ·have HM2 := Lib.hid (HM.out h0)
     subst h0
     go_wp2
     go_round
     case rel => exact ⟨k - 1, by omega, HM2.out, by go_num⟩
     case measure => simp [intOf]; omega
    ·have HD2 := Lib.hid (HD.out h0)
     have hb : ((d : Int) == 0) = false := by simp; exact h0
     clear h0
     go_wp2
     go_ret
     refine ⟨_, rfl, ?_, rfl⟩
     have := H.out.take hk
     rw [HD2.out, limI_take (by have := HD2.out; omega)] at this
     have e := HD2.out
     rw [← e] at this
     exact this
   ·obtain rfl : k = 0 := by omega
    have HT : Hid (limI T = []) := by
     unfold Hid
     have : nlen T = 0 := by omega
     unfold limI; rw [this]; rfl
    go_wp2
    go_ret
    refine ⟨_, rfl, ?_, rfl⟩
    have := H.out.take (Nat.zero_le _)
    rw [List.take_zero] at this
    rw [HT.out]
    exact this
theorem sum_step {x y i : Nat} {c p q : Int} (hc : c = comC 1 1 x y i) (hp : p = (dig x i : Int)) (hq : q = (dig y i : Int)) : (c + p + q) % 1000000000 = digF (x + y) i ∧ (c + p + q) / 1000000000 = comC 1 1 x y (i + 1) := by
 have h := com_step (m := 1) (n := 1) (x := x) (y := y) (T := x + y) (i := i) (by omega) hc (p := p) (q := q) (t := c + p + q) (by rw [hp]; omega) (by rw [hq]; omega) (by omega)
 exact h
set_option maxHeartbeats 1000000 in
theorem spec_add (va vb : Value) (x y : Nat) (w : World) (ha : RowOf iV w va (limI x)) (hb : RowOf iV w vb (limI y)) (hx : nlen x ≤ 1000) (hy : nlen y ≤ 1000) :
  Calls Tryz.prog 198 #[va, vb] w fun e w' => ∃ v, e = .returned v ∧ ∃ n, OwnI w' w.heap.size v (listF n (digF (x + y))) ∧ nlen (x + y) ≤ n ∧ Below w.heap.size w w' := by
 have RA := Lib.hid ha
 have RB := Lib.hid hb
 obtain ⟨aa, ca, rfl, h1, h2, h3⟩ := ha
 obtain ⟨ab, cb, rfl, h4, h5, h6⟩ := hb
 clear h1 h2 h3 h4 h5 h6
 rw [limI_length] at RA RB ⊢
 rw [limI_length]
 have HX := fun k => Lib.hid (fun h : nlen x ≤ k => dig_past h)
 have HY := fun k => Lib.hid (fun h : nlen y ≤ k => dig_past h)
 have HZ := Lib.hid (fun (k : Nat) (h1 : nlen x < k) (h2 : nlen y < k) => comC_last h1 h2)
 have HE := Lib.hid (fun (k : Nat) (h1 : nlen x ≤ k) (h2 : nlen y ≤ k) (h3 : comC 1 1 x y k = 0) => comC_done h1 h2 h3)
 have HN := Lib.hid (fun k => comC_bound 1 1 x y k 2 (by omega))
 have HP := Lib.hid (fun k => comC_nonneg (x := x) (y := y) (i := k))
 obtain ⟨nx, hnx⟩ : ∃ nx, nlen x = nx := ⟨_, rfl⟩
 obtain ⟨ny, hny⟩ : ∃ ny, nlen y = ny := ⟨_, rfl⟩
 rw [hnx] at hx RA HX HZ HE ⊢
 rw [hny] at hy RB HY HZ HE ⊢
 have HNX := Lib.hid hnx
 have HNY := Lib.hid hny
 clear hnx hny
 go_enter Tryz.func198, Tryz.ntmps198
 go_wp2
 go_loopw [5, 6, 7] (fun ov cv iv wr => ∃ (k : Nat) (c : Int), iv = .int .i64 k ∧ cv = .int .i64 c ∧ 0 ≤ c ∧ c ≤ 2 ∧ Hid (c = comC 1 1 x y k) ∧ k ≤ max nx ny + 1 ∧ Hid (OwnI wr w.heap.size ov (listF k (digF (x + y)))) ∧ Hid (Below w.heap.size w wr)) (fun _ _ iv _ => max nx ny + 2 - (intOf iv).toNat)
 case atStart => exact ⟨0, 0, rfl, rfl, by omega, by omega, (comC_zero 1 1 x y).symm, by omega, OwnI.lit0 w, (Below.refl _ w).alloc (Nat.le_refl _) _⟩
 case round =>
  obtain ⟨k, c, rfl, rfl, hc0, hc2, HC, hkm, HO, HB⟩ := hrel
  obtain ⟨v, rfl⟩ : ∃ v, v = u5 := ⟨_, rfl⟩
  have hln : (listF k (digF (x + y))).length ≤ 1099511627776 := by rw [listF_length]; omega
  have hcs : ∀ o, w.heap.size ≤ (wr.alloc o).heap.size := fun o => by have := HB.out.size; simp; omega
  have RA1 := Lib.hid (rowOf_below RA.out HB.out)
  have RB1 := Lib.hid (rowOf_below RB.out HB.out)
  by_cases h1 : k < nx
  ·obtain ⟨b1, o1, rfl, hx1⟩ := row_limb RA1.out (by rw [HNX.out]; exact h1)
   have hdx := dig_lt x k
   obtain ⟨dx, hdxe⟩ : ∃ dx, dig x k = dx := ⟨_, rfl⟩
   rw [hdxe] at hx1 hdx
   have HDX := Lib.hid hdxe
   clear hdxe
   by_cases h2 : k < ny
   ·obtain ⟨b2, o2, rfl, hx2⟩ := row_limb RB1.out (by rw [HNY.out]; exact h2)
    have hdy := dig_lt y k
    obtain ⟨dy, hdye⟩ : ∃ dy, dig y k = dy := ⟨_, rfl⟩
    rw [hdye] at hx2 hdy
    have HS := Lib.hid (sum_step HC.out (p := dx) (q := dy) (by rw [HDX.out]) (by rw [hdye]))
    clear hdye
    go_wp2_with (at_builtin; refine append_int rfl _ _ 30 Tryz.underlying30 rfl w.heap.size _ _ _ ⟨wr.heap.size, 0, none⟩ rfl (HO.out.alloc _) rfl (cell_one_new _ _ _) hln (hcs _) ?_; intro v' w1 h1 hg1)
    go_roundw
    case rel => exact ⟨k + 1, _, by go_num, rfl, by omega, by omega, HS.out.2, by omega, by rw [HS.out.1] at h1; rw [listF_succ]; exact h1, (HB.out.alloc HB.out.size _).grown hg1 (hcs _) fun g hg => (HO.out.lt g hg).1⟩
    case measure => simp [intOf]; omega
   ·have HS := Lib.hid (sum_step HC.out (p := dx) (q := 0) (by rw [HDX.out]) (by rw [(HY k).out (by omega)]; rfl))
    rw [Int.add_zero] at HS
    go_wp2_with (at_builtin; refine append_int rfl _ _ 30 Tryz.underlying30 rfl w.heap.size _ _ _ ⟨wr.heap.size, 0, none⟩ rfl (HO.out.alloc _) rfl (cell_one_new _ _ _) hln (hcs _) ?_; intro v' w1 h1 hg1)
    go_roundw
    case rel => exact ⟨k + 1, _, by go_num, rfl, by omega, by omega, HS.out.2, by omega, by rw [HS.out.1] at h1; rw [listF_succ]; exact h1, (HB.out.alloc HB.out.size _).grown hg1 (hcs _) fun g hg => (HO.out.lt g hg).1⟩
    case measure => simp [intOf]; omega
  ·by_cases h2 : k < ny
   ·obtain ⟨b2, o2, rfl, hx2⟩ := row_limb RB1.out (by rw [HNY.out]; exact h2)
    have hdy := dig_lt y k
    obtain ⟨dy, hdye⟩ : ∃ dy, dig y k = dy := ⟨_, rfl⟩
    rw [hdye] at hx2 hdy
    have HS := Lib.hid (sum_step HC.out (p := 0) (q := dy) (by rw [(HX k).out (by omega)]; rfl) (by rw [hdye]))
    rw [Int.add_zero] at HS
    clear hdye
    go_wp2_with (at_builtin; refine append_int rfl _ _ 30 Tryz.underlying30 rfl w.heap.size _ _ _ ⟨wr.heap.size, 0, none⟩ rfl (HO.out.alloc _) rfl (cell_one_new _ _ _) hln (hcs _) ?_; intro v' w1 h1 hg1)
    go_roundw
    case rel => exact ⟨k + 1, _, by go_num, rfl, by omega, by omega, HS.out.2, by omega, by rw [HS.out.1] at h1; rw [listF_succ]; exact h1, (HB.out.alloc HB.out.size _).grown hg1 (hcs _) fun g hg => (HO.out.lt g hg).1⟩
    case measure => simp [intOf]; omega
   ·by_cases h3 : 0 < c
    ·have hkk : k < max nx ny + 1 := by
      rcases Nat.lt_or_ge k (max nx ny + 1) with h | h
      ·exact h
      ·have := HC.out
       rw [HZ.out k (by omega) (by omega)] at this
       omega
     have HS := Lib.hid (sum_step HC.out (p := 0) (q := 0) (by rw [(HX k).out (by omega)]; rfl) (by rw [(HY k).out (by omega)]; rfl))
     rw [Int.add_zero, Int.add_zero] at HS
     go_wp2_with (at_builtin; refine append_int rfl _ _ 30 Tryz.underlying30 rfl w.heap.size _ _ _ ⟨wr.heap.size, 0, none⟩ rfl (HO.out.alloc _) rfl (cell_one_new _ _ _) hln (hcs _) ?_; intro v' w1 h1 hg1)
     go_roundw
     case rel => exact ⟨k + 1, _, by go_num, rfl, by omega, by omega, HS.out.2, by omega, by rw [HS.out.1] at h1; rw [listF_succ]; exact h1, (HB.out.alloc HB.out.size _).grown hg1 (hcs _) fun g hg => (HO.out.lt g hg).1⟩
     case measure => simp [intOf]; omega
    ·have HF := Lib.hid (HE.out k (by omega) (by omega) (by rw [← HC.out]; omega))
     go_wp2
     go_ret
     exact ⟨_, rfl, k, HO.out, HF.out, HB.out⟩
theorem okB_cases {zs : List Int} (h : okB zs = true) : ∃ x, zs = limI x ∧ x < pw 60 := ⟨_, okB_lim h⟩
end Go.Proofs.YtlepgkkpopjgoaaGreat
namespace Go.Proofs.YtlepgkkpopjgoaaGreat
set_option maxRecDepth 100000
set_option linter.unusedVariables false
set_option linter.unusedSimpArgs false
open Go.RowKit
theorem mul_start (P d y i N : Nat) : listF N (digF P) = fillU N i (digF (P + pw i * d * y)) (digF P) := by
 refine listF_congr (fun j hj => ?_)
 by_cases h : j < i
 ·rw [if_pos h]; unfold digF; rw [mul_dig_low P d y i j h]
 ·rw [if_neg h]
theorem mul_end (P F N M : Nat) (hP : P < pw M) (hF : F < pw M) : fillU N M (digF F) (digF P) = listF N (digF F) := by
 refine listF_congr (fun j hj => ?_)
 by_cases h : j < M
 ·rw [if_pos h]
 ·rw [if_neg h]; unfold digF; rw [dig_zero_of_lt (Nat.lt_of_lt_of_le hP (pw_mono (by omega))), dig_zero_of_lt (Nat.lt_of_lt_of_le hF (pw_mono (by omega)))]
theorem mul_step {P d y i k c p e : Nat} (hc : c = mulC P d y i k) (hp : dig P (i + k) = p) (he : dig y k = e) : ((c + (p + d * e)) % 1000000000 = dig (P + pw i * d * y) (i + k)) ∧ (c + (p + d * e)) / 1000000000 = mulC P d y i (k + 1) := by
 rw [mul_dig, mulC_succ, hc, hp, he]; exact ⟨rfl, rfl⟩
theorem mul_small2 {d e : Nat} (hd : d < 1000000000) (he : e < 1000000000) : d * e ≤ 999999998000000001 := by
 have : d * e ≤ 999999999 * 999999999 := Nat.mul_le_mul (by omega) (by omega)
 omega
set_option maxHeartbeats 2000000 in
theorem impl_times (va vb : Value) (x y : Nat) (w : World) (ha : RowOf iV w va (limI x)) (hb : RowOf iV w vb (limI y)) (hx : nlen x ≤ 1000) (hy : nlen y ≤ 1000) :
  Calls Tryz.prog 144 #[va, vb] w fun e w' => ∃ v, e = .returned v ∧ OwnI w' w.heap.size v (limI (x * y)) ∧ Below w.heap.size w w' := by
 have RA := Lib.hid ha
 have RB := Lib.hid hb
 obtain ⟨aa, ca, rfl, h1, h2, h3⟩ := ha
 obtain ⟨ab, cb, rfl, h4, h5, h6⟩ := hb
 clear h1 h2 h3 h4 h5 h6
 rw [limI_length] at RA RB ⊢
 rw [limI_length]
 have HLX := Lib.hid (lt_pw_nlen x)
 have HLY := Lib.hid (lt_pw_nlen y)
 obtain ⟨nx, hnx⟩ : ∃ nx, nlen x = nx := ⟨_, rfl⟩
 obtain ⟨ny, hny⟩ : ∃ ny, nlen y = ny := ⟨_, rfl⟩
 rw [hnx] at hx RA HLX ⊢
 rw [hny] at hy RB HLY ⊢
 have HNX := Lib.hid hnx
 have HNY := Lib.hid hny
 clear hnx hny
 have hmk := make_limbs (nx + ny) (by omega)
 rw [show ((nx + ny : Nat) : Int) = (nx : Int) + (ny : Int) by simp] at hmk
 have HO := Lib.hid (zeroObj_own w w.heap.size (nx + ny) (Nat.le_refl _) (by omega))
 have HB := Lib.hid ((Below.refl w.heap.size w).alloc (Nat.le_refl _) (zeroObj (nx + ny)))
 obtain ⟨N, hN⟩ : ∃ N, nx + ny = N := ⟨_, rfl⟩
 rw [hN] at HO HB hmk
 have hN2 : nx + ny ≤ N := by omega
 have hN3 : N ≤ nx + ny := by omega
 have HN := Lib.hid hN
 clear hN
 go_enter Tryz.func144, Tryz.ntmps144
 go_wp2
 clear hmk
 generalize w.alloc (zeroObj N) = W1 at HO HB ⊢
 obtain ⟨g, hg⟩ : ∃ g, w.heap.size = g := ⟨_, rfl⟩
 rw [hg] at HO HB ⊢
 have HG := Lib.hid hg
 clear hg
 go_loopw [8, 19] (fun cv0 iv wr => ∃ i : Nat, i ≤ nx ∧ iv = .int .i64 i ∧ Hid (OwnI wr g (.slice (some ⟨g, 0, none⟩) N N) (listF N (digF (x % pw i * y)))) ∧ Hid (Below g w wr)) (fun _ iv _ => nx - (intOf iv).toNat)
 case atStart => exact ⟨0, Nat.zero_le _, rfl, by rw [pw_zero, Nat.mod_one, Nat.zero_mul]; refine (show listF N (digF 0) = listF N (fun _ => 0) from listF_congr (fun i _ => ?_)) ▸ HO; unfold digF dig; simp, HB⟩
 case round =>
  obtain ⟨i, hi, rfl, HK, HBk⟩ := hrel
  by_cases hlt : i < nx
  ·obtain ⟨b1, o1, rfl, hx1⟩ := row_limb (rowOf_below RA.out (by rw [HG.out]; exact HBk.out)) (k := i) (by rw [HNX.out]; exact hlt)
   have hdl := dig_lt x i
   have HF := Lib.hid (mul_next x y i)
   obtain ⟨d, hd⟩ : ∃ d, dig x i = d := ⟨_, rfl⟩
   rw [hd] at hx1 hdl HF
   have HPl := Lib.hid (mul_part_lt (x := x) (i := i) HLY.out)
   obtain ⟨P, hP⟩ : ∃ P, x % pw i * y = P := ⟨_, rfl⟩
   rw [hP] at HK HF HPl
   clear hd hP
   have HS := Lib.hid (mul_start P d y i N)
   rw [HS.out] at HK
   have HML := Lib.hid (fun k => mulC_le P d y i k)
   have HMZ := Lib.hid (mulC_zero P d y i)
   obtain ⟨wo, rfl⟩ : ∃ wo : World, wo = wr := ⟨_, rfl⟩
   go_wp2
   go_loopw [8, 26] (fun cv kv wr => ∃ k c : Nat, k ≤ ny ∧ kv = .int .i64 k ∧ cv = .int .i64 c ∧ c < 1000000000 ∧ Hid (c = mulC P d y i k) ∧ Hid (OwnI wr g (.slice (some ⟨g, 0, none⟩) N N) (fillU N (i + k) (digF (P + pw i * d * y)) (digF P))) ∧ Hid (Below g w wr)) (fun _ kv _ => ny - (intOf kv).toNat)
   case atStart => exact ⟨0, 0, Nat.zero_le _, rfl, rfl, by omega, HMZ.out.symm, HK, HBk⟩
   case round =>
    obtain ⟨k, c, hk, rfl, rfl, hc, HC, HK2, HB2⟩ := hrel
    by_cases hlk : k < ny
    ·obtain ⟨b2, o2, rfl, hx2⟩ := row_limb (rowOf_below RB.out (by rw [HG.out]; exact HB2.out)) (k := k) (by rw [HNY.out]; exact hlk)
     have hcl1 := HK2.out.cell (i + k) (by rw [fillU_length]; omega)
     rw [fillU_get, if_neg (by omega)] at hcl1
     unfold digF at hcl1
     have hfz := HK2.out.frozen (i + k)
     have hel := dig_lt y k
     have hpl := dig_lt P (i + k)
     have HT := Lib.hid (fun p e (hp : dig P (i + k) = p) (he : dig y k = e) => mul_step HC.out hp he)
     have HM1 := Lib.hid (HML.out (k + 1))
     obtain ⟨e, he⟩ : ∃ e, dig y k = e := ⟨_, rfl⟩
     obtain ⟨p, hp⟩ : ∃ p, dig P (i + k) = p := ⟨_, rfl⟩
     rw [he] at hx2 hel
     rw [hp] at hcl1 hpl
     have HT1 := Lib.hid (HT.out p e hp he)
     have hpr := mul_small2 hdl hel
     obtain ⟨q, hq⟩ : ∃ q, d * e = q := ⟨_, rfl⟩
     rw [hq] at HT1 hpr
     have hqi : (d : Int) * (e : Int) = (q : Int) := by rw [← hq]; simp
     clear he hp hq
     have HO2 := Lib.hid (HK2.out.set (i + k) ((c + (p + q)) % 1000000000 : Nat))
     have HB3 := Lib.hid (HB2.out.setCell (p := ⟨g, i + k, none⟩) (Nat.le_refl _) (.int .i64 ((c + (p + q)) % 1000000000 : Nat)))
     rw [HT1.out.1] at HO2
     have HO3 : Hid (OwnI (wr.setCell ⟨g, i + k, none⟩ (.int .i64 ((c + (p + q)) % 1000000000 : Nat))) g (.slice (some ⟨g, 0, none⟩) N N) (fillU N (i + (k + 1)) (digF (P + pw i * d * y)) (digF P))) := by
      have h := HO2.out
      have e2 := fillU_set (n := N) (k := i + k) (F := digF (P + pw i * d * y)) (G := digF P) (by omega)
      unfold digF at e2 h ⊢
      rw [e2] at h
      unfold Hid
      rw [HT1.out.1]
      exact h
     have ecast : (((c + (p + q)) % 1000000000 : Nat) : Int) = ((c : Int) + ((p : Int) + (q : Int))) % 1000000000 := by omega
     rw [ecast] at HO3 HB3
     have HCn : Hid ((c + (p + q)) / 1000000000 < 1000000000) := by have h1 := HM1.out; rw [← HT1.out.2] at h1; unfold Hid; omega
     clear ecast HO2
     go_wp2
     go_roundw
     case rel => exact ⟨k + 1, (c + (p + q)) / 1000000000, by omega, by go_num, by go_num, HCn.out, HT1.out.2, HO3, HB3⟩
     case measure => simp [intOf]; omega
    ·obtain rfl : k = ny := by omega
     have hcl1 := HK2.out.cell (i + k) (by rw [fillU_length]; omega)
     have hfz := HK2.out.frozen (i + k)
     have HE := Lib.hid (mul_dig_top (P := P) (d := d) (y := y) (i := i) (n := k) HPl.out HLY.out hdl)
     have HO2 := Lib.hid (HK2.out.set (i + k) (c : Int))
     have HB3 := Lib.hid (HB2.out.setCell (p := ⟨g, i + k, none⟩) (Nat.le_refl _) (.int .i64 c))
     have HO3 : Hid (OwnI (wr.setCell ⟨g, i + k, none⟩ (.int .i64 c)) g (.slice (some ⟨g, 0, none⟩) N N) (listF N (digF (x % pw (i + 1) * y)))) := by
      have h := HO2.out
      have e3 : (c : Int) = digF (P + pw i * d * y) (i + k) := by unfold digF; rw [HC.out, HE.out.1]
      have e2 := fillU_set (n := N) (k := i + k) (F := digF (P + pw i * d * y)) (G := digF P) (by omega)
      rw [← e3] at e2
      rw [e2, mul_end P _ N (i + k + 1) (Nat.lt_trans HPl.out (pw_lt (by omega))) HE.out.2, HF.out] at h
      exact h
     clear HO2
     go_wp2
     go_roundw
     case rel => exact ⟨i + 1, by omega, by go_num, HO3, HB3⟩
     case measure => simp [intOf]; omega
  ·obtain rfl : i = nx := by omega
   have HT : Hid (nlen (x * y) ≤ N) := by
    unfold Hid
    rw [nlen_le_iff]
    refine Nat.lt_of_lt_of_le ?_ (pw_mono hN2)
    rw [pw_add]
    exact Nat.mul_lt_mul'' HLX.out HLY.out
   have HO1 := HK.out
   rw [Nat.mod_eq_of_lt HLX.out] at HO1
   have HT1 := Lib.hid (impl_trimmed _ (x * y) N g wr HO1 HT.out)
   clear HO1
   go_wp2_with fail
   refine HT1.out.mono ?_
   rintro e w2 ⟨v', rfl, o, _, rfl⟩
   have O := Lib.hid o
   clear o
   go_wp2
   go_ret
   exact ⟨_, rfl, by rw [HG.out]; exact O.out, by rw [HG.out]; exact HBk.out⟩
set_option maxHeartbeats 2000000 in
theorem spec_mul (va vb : Value) (x y : Nat) (w : World) (ha : RowOf iV w va (limI x)) (hb : RowOf iV w vb (limI y)) (hx : nlen x ≤ 1000) (hy : nlen y ≤ 1000) (hx0 : 0 < x) (hy0 : 0 < y) :
  Calls Tryz.prog 127 #[va, vb] w fun e w' => ∃ v, e = .returned v ∧ OwnI w' w.heap.size v (limI (x * y)) ∧ Below w.heap.size w w' := by
 have RA := Lib.hid ha
 have RB := Lib.hid hb
 obtain ⟨aa, ca, rfl, h1, h2, h3⟩ := ha
 obtain ⟨ab, cb, rfl, h4, h5, h6⟩ := hb
 clear h1 h2 h3 h4 h5 h6
 rw [limI_length] at RA RB ⊢
 rw [limI_length]
 have hn0 := (nlen_pos_iff x).2 hx0
 have hn1 := (nlen_pos_iff y).2 hy0
 have HLX := Lib.hid (lt_pw_nlen x)
 have HLY := Lib.hid (lt_pw_nlen y)
 obtain ⟨nx, hnx⟩ : ∃ nx, nlen x = nx := ⟨_, rfl⟩
 obtain ⟨ny, hny⟩ : ∃ ny, nlen y = ny := ⟨_, rfl⟩
 rw [hnx] at hx RA HLX hn0 ⊢
 rw [hny] at hy RB HLY hn1 ⊢
 have HNX := Lib.hid hnx
 have HNY := Lib.hid hny
 clear hnx hny
 have hmk := make_ints (nx + ny) (by omega)
 rw [show ((nx + ny : Nat) : Int) = (nx : Int) + (ny : Int) by simp] at hmk
 have HO := Lib.hid (zeroObj_own w w.heap.size (nx + ny) (Nat.le_refl _) (by omega))
 have HB := Lib.hid ((Below.refl w.heap.size w).alloc (Nat.le_refl _) (zeroObj (nx + ny)))
 obtain ⟨N, hN⟩ : ∃ N, nx + ny = N := ⟨_, rfl⟩
 rw [hN] at HO HB hmk
 have hN2 : nx + ny ≤ N := by omega
 have hN3 : N ≤ nx + ny := by omega
 have hz0 : ((nx : Int) == 0) = false := by simp; omega
 have hz1 : ((ny : Int) == 0) = false := by simp; omega
 have HN := Lib.hid hN
 clear hN
 go_enter Tryz.func127, Tryz.ntmps127
 go_wp2
 clear hmk
 generalize w.alloc (zeroObj N) = W1 at HO HB ⊢
 obtain ⟨g, hg⟩ : ∃ g, w.heap.size = g := ⟨_, rfl⟩
 rw [hg] at HO HB ⊢
 have HG := Lib.hid hg
 clear hg
 go_loopw [8, 28] (fun cv0 iv wr => ∃ i : Nat, i ≤ nx ∧ iv = .int .i64 i ∧ Hid (OwnI wr g (.slice (some ⟨g, 0, none⟩) N N) (listF N (digF (x % pw i * y)))) ∧ Hid (Below g w wr)) (fun _ iv _ => nx - (intOf iv).toNat)
 case atStart => exact ⟨0, Nat.zero_le _, rfl, by rw [pw_zero, Nat.mod_one, Nat.zero_mul]; refine (show listF N (digF 0) = listF N (fun _ => 0) from listF_congr (fun i _ => ?_)) ▸ HO; unfold digF dig; simp, HB⟩
 case round =>
  obtain ⟨i, hi, rfl, HK, HBk⟩ := hrel
  by_cases hlt : i < nx
  ·obtain ⟨b1, o1, rfl, hx1⟩ := row_limb (rowOf_below RA.out (by rw [HG.out]; exact HBk.out)) (k := i) (by rw [HNX.out]; exact hlt)
   have hdl := dig_lt x i
   have HF := Lib.hid (mul_next x y i)
   obtain ⟨d, hd⟩ : ∃ d, dig x i = d := ⟨_, rfl⟩
   rw [hd] at hx1 hdl HF
   have HPl := Lib.hid (mul_part_lt (x := x) (i := i) HLY.out)
   obtain ⟨P, hP⟩ : ∃ P, x % pw i * y = P := ⟨_, rfl⟩
   rw [hP] at HK HF HPl
   clear hd hP
   have HS := Lib.hid (mul_start P d y i N)
   rw [HS.out] at HK
   have HML := Lib.hid (fun k => mulC_le P d y i k)
   have HMZ := Lib.hid (mulC_zero P d y i)
   obtain ⟨wo, rfl⟩ : ∃ wo : World, wo = wr := ⟨_, rfl⟩
   go_wp2
   go_loopw [8, 35] (fun cv kv wr => ∃ k c : Nat, k ≤ ny ∧ kv = .int .i64 k ∧ cv = .int .i64 c ∧ c < 1000000000 ∧ Hid (c = mulC P d y i k) ∧ Hid (OwnI wr g (.slice (some ⟨g, 0, none⟩) N N) (fillU N (i + k) (digF (P + pw i * d * y)) (digF P))) ∧ Hid (Below g w wr)) (fun _ kv _ => ny - (intOf kv).toNat)
   case atStart => exact ⟨0, 0, Nat.zero_le _, rfl, rfl, by omega, HMZ.out.symm, HK, HBk⟩
   case round =>
    obtain ⟨k, c, hk, rfl, rfl, hc, HC, HK2, HB2⟩ := hrel
    by_cases hlk : k < ny
    ·obtain ⟨b2, o2, rfl, hx2⟩ := row_limb (rowOf_below RB.out (by rw [HG.out]; exact HB2.out)) (k := k) (by rw [HNY.out]; exact hlk)
     have hcl1 := HK2.out.cell (i + k) (by rw [fillU_length]; omega)
     rw [fillU_get, if_neg (by omega)] at hcl1
     unfold digF at hcl1
     have hfz := HK2.out.frozen (i + k)
     have hel := dig_lt y k
     have hpl := dig_lt P (i + k)
     have HT := Lib.hid (fun p e (hp : dig P (i + k) = p) (he : dig y k = e) => mul_step HC.out hp he)
     have HM1 := Lib.hid (HML.out (k + 1))
     obtain ⟨e, he⟩ : ∃ e, dig y k = e := ⟨_, rfl⟩
     obtain ⟨p, hp⟩ : ∃ p, dig P (i + k) = p := ⟨_, rfl⟩
     rw [he] at hx2 hel
     rw [hp] at hcl1 hpl
     have HT1 := Lib.hid (HT.out p e hp he)
     have hpr := mul_small2 hdl hel
     obtain ⟨q, hq⟩ : ∃ q, d * e = q := ⟨_, rfl⟩
     rw [hq] at HT1 hpr
     have hqi : (d : Int) * (e : Int) = (q : Int) := by rw [← hq]; simp
     clear he hp hq
     have HO2 := Lib.hid (HK2.out.set (i + k) ((c + (p + q)) % 1000000000 : Nat))
     have HB3 := Lib.hid (HB2.out.setCell (p := ⟨g, i + k, none⟩) (Nat.le_refl _) (.int .i64 ((c + (p + q)) % 1000000000 : Nat)))
     rw [HT1.out.1] at HO2
     have HO3 : Hid (OwnI (wr.setCell ⟨g, i + k, none⟩ (.int .i64 ((c + (p + q)) % 1000000000 : Nat))) g (.slice (some ⟨g, 0, none⟩) N N) (fillU N (i + (k + 1)) (digF (P + pw i * d * y)) (digF P))) := by
      have h := HO2.out
      have e2 := fillU_set (n := N) (k := i + k) (F := digF (P + pw i * d * y)) (G := digF P) (by omega)
      unfold digF at e2 h ⊢
      rw [e2] at h
      unfold Hid
      rw [HT1.out.1]
      exact h
     have ecast : (((c + (p + q)) % 1000000000 : Nat) : Int) = ((p : Int) + (q : Int) + (c : Int)) % 1000000000 := by omega
     rw [ecast] at HO3 HB3
     have HCn : Hid ((c + (p + q)) / 1000000000 < 1000000000) := by have h1 := HM1.out; rw [← HT1.out.2] at h1; unfold Hid; omega
     clear ecast HO2
     go_wp2
     go_roundw
     case rel => exact ⟨k + 1, (c + (p + q)) / 1000000000, by omega, by go_num, by go_num, HCn.out, HT1.out.2, HO3, HB3⟩
     case measure => simp [intOf]; omega
    ·obtain rfl : k = ny := by omega
     have hcl1 := HK2.out.cell (i + k) (by rw [fillU_length]; omega)
     have hfz := HK2.out.frozen (i + k)
     have HE := Lib.hid (mul_dig_top (P := P) (d := d) (y := y) (i := i) (n := k) HPl.out HLY.out hdl)
     have HO2 := Lib.hid (HK2.out.set (i + k) (c : Int))
     have HB3 := Lib.hid (HB2.out.setCell (p := ⟨g, i + k, none⟩) (Nat.le_refl _) (.int .i64 c))
     have HO3 : Hid (OwnI (wr.setCell ⟨g, i + k, none⟩ (.int .i64 c)) g (.slice (some ⟨g, 0, none⟩) N N) (listF N (digF (x % pw (i + 1) * y)))) := by
      have h := HO2.out
      have e3 : (c : Int) = digF (P + pw i * d * y) (i + k) := by unfold digF; rw [HC.out, HE.out.1]
      have e2 := fillU_set (n := N) (k := i + k) (F := digF (P + pw i * d * y)) (G := digF P) (by omega)
      rw [← e3] at e2
      rw [e2, mul_end P _ N (i + k + 1) (Nat.lt_trans HPl.out (pw_lt (by omega))) HE.out.2, HF.out] at h
      exact h
     clear HO2
     go_wp2
     go_roundw
     case rel => exact ⟨i + 1, by omega, by go_num, HO3, HB3⟩
     case measure => simp [intOf]; omega
  ·obtain rfl : i = nx := by omega
   have HT : Hid (nlen (x * y) ≤ N) := by
    unfold Hid
    rw [nlen_le_iff]
    refine Nat.lt_of_lt_of_le ?_ (pw_mono hN2)
    rw [pw_add]
    exact Nat.mul_lt_mul'' HLX.out HLY.out
   have HO1 := HK.out
   rw [Nat.mod_eq_of_lt HLX.out] at HO1
   have HT1 := Lib.hid (spec_trim _ (x * y) N g wr HO1 HT.out)
   clear HO1
   go_wp2_with fail
   refine HT1.out.mono ?_
   rintro e w2 ⟨v', rfl, o, rfl⟩
   have O := Lib.hid o
   clear o
   go_wp2
   go_ret
   exact ⟨_, rfl, by rw [HG.out]; exact O.out, by rw [HG.out]; exact HBk.out⟩
end Go.Proofs.YtlepgkkpopjgoaaGreat
namespace Go.Proofs.YtlepgkkpopjgoaaGreat
set_option maxRecDepth 100000
set_option linter.unusedVariables false
set_option linter.unusedSimpArgs false
open Go.RowKit
set_option maxHeartbeats 400000 in
theorem spec_mulAny (va vb : Value) (x y : Nat) (w : World) (ha : RowOf iV w va (limI x)) (hb : RowOf iV w vb (limI y)) (hx : nlen x ≤ 1000) (hy : nlen y ≤ 1000) :
  Calls Tryz.prog 127 #[va, vb] w fun e w' => ∃ v, e = .returned v ∧ OwnI w' w.heap.size v (limI (x * y)) ∧ Below w.heap.size w w' := by
 by_cases hx0 : 0 < x
 ·by_cases hy0 : 0 < y
  ·exact spec_mul va vb x y w ha hb hx hy hx0 hy0
  ·obtain rfl : y = 0 := by omega
   rw [Nat.mul_zero, limI_zero]
   have hz := (nlen_pos_iff x).2 hx0
   obtain ⟨aa, ca, rfl, h1, h2, h3⟩ := ha
   obtain ⟨ab, cb, rfl, h4, h5, h6⟩ := hb
   clear h1 h2 h3 h4 h5 h6
   rw [limI_zero, limI_length]
   have hz0 : ((nlen x : Int) == 0) = false := by simp; omega
   go_enter Tryz.func127, Tryz.ntmps127
   go_wp2
   go_ret
   exact ⟨_, rfl, OwnI.nil _ _, Below.refl _ _⟩
 ·obtain rfl : x = 0 := by omega
  rw [Nat.zero_mul, limI_zero]
  obtain ⟨aa, ca, rfl, h1, h2, h3⟩ := ha
  obtain ⟨ab, cb, rfl, h4, h5, h6⟩ := hb
  clear h1 h2 h3 h4 h5 h6
  rw [limI_zero]
  go_enter Tryz.func127, Tryz.ntmps127
  go_wp2
  go_ret
  exact ⟨_, rfl, OwnI.nil _ _, Below.refl _ _⟩
end Go.Proofs.YtlepgkkpopjgoaaGreat
namespace Go.Proofs.YtlepgkkpopjgoaaGreat
set_option maxRecDepth 100000
set_option linter.unusedVariables false
set_option linter.unusedSimpArgs false
open Go.RowKit Go.Shelf
attribute [local go_sem] Oper.semAt_some
abbrev BackA (len : Nat) (V : Nat → Int → Prop) := {p : Nat × Int // p.1 < len ∧ V p.1 p.2}
def descN (n k : Nat) : List Nat := (List.range k).map (fun j => n - 1 - j)
theorem descN_succ (n k : Nat) : descN n (k + 1) = descN n k ++ [n - 1 - k] := by simp [descN, List.range_succ]
theorem descN_zero (n : Nat) : descN n 0 = [] := rfl
theorem descN_length (n k : Nat) : (descN n k).length = k := by simp [descN]
def Rd (V : Nat → Int → Prop) (a : Option Addr) (len : Nat) (W : World) : Prop :=
 ∀ i, i < len → ∃ b o z, a = some ⟨b, o, none⟩ ∧ V i z ∧ W.cell? ⟨b, o + i, none⟩ = some (.int .i64 z)
def idx {len : Nat} {V : Nat → Int → Prop} (x : BackA len V) : Nat := x.1.1
def KpB (V : Nat → Int → Prop) (a : Option Addr) (len Bs n₀ : Nat) (W W' : World) : Prop :=
 Below n₀ W W' ∧ W'.heap[Bs]? = W.heap[Bs]? ∧ (Rd V a len W → Rd V a len W')
theorem KpB.refl {V : Nat → Int → Prop} {a : Option Addr} {len Bs n₀ : Nat} (W : World) : KpB V a len Bs n₀ W W := ⟨Below.refl _ _, rfl, id⟩
theorem KpB.trans {V : Nat → Int → Prop} {a : Option Addr} {len Bs n₀ : Nat} {A B C : World} (h : KpB V a len Bs n₀ A B) (k : KpB V a len Bs n₀ B C) : KpB V a len Bs n₀ A C :=
 ⟨h.1.trans k.1, k.2.1.trans h.2.1, fun r => k.2.2 (h.2.2 r)⟩
theorem rd_keep {V : Nat → Int → Prop} {a : Option Addr} {len : Nat} {W W' : World} (h : Rd V a len W) (hk : ∀ b o, a = some ⟨b, o, none⟩ → 0 < len → W'.heap[b]? = W.heap[b]?) : Rd V a len W' := by
 intro i hi
 obtain ⟨b, o, z, e, hv, hc⟩ := h i hi
 exact ⟨b, o, z, e, hv, (World.cell?_of_block (a := ⟨b, o + i, none⟩) (hk b o e (by omega))).trans hc⟩
theorem KpB.of_below {V : Nat → Int → Prop} {a : Option Addr} {len Bs n₀ m : Nat} {W W' : World} (hb : Below m W W') (hn : n₀ ≤ m) (hB : Bs < m) (ha : ∀ b o, a = some ⟨b, o, none⟩ → 0 < len → b < m) : KpB V a len Bs n₀ W W' :=
 ⟨hb.mono hn, hb.block Bs hB, fun r => rd_keep r (fun b o e hl => hb.block b (ha b o e hl))⟩
theorem KpB.putObj {V : Nat → Int → Prop} {a : Option Addr} {len Bs n₀ : Nat} {w : World} (hn : n₀ ≤ w.heap.size) (hB : Bs < w.heap.size) (ha : ∀ b o, a = some ⟨b, o, none⟩ → 0 < len → b < w.heap.size)
  (W : World) (l : Nat) (o o' : Obj) (hl : w.heap.size ≤ l) (h : W.heap[l]? = some o) (hc : o.isCells = false) (hw : o.isWalk = false) : KpB V a len Bs n₀ W (W.putObj l o') := by
 have hg := grownBy_putObj' W l o'
 have hlt : l < W.heap.size := (Array.getElem?_eq_some_iff.1 h).1
 refine ⟨belowK_b hn W l o o' hl h hc hw, hg.block Bs (by omega) (fun e => by injection e with e; omega), fun r => rd_keep r (fun b o e hl2 => hg.block b (by have := ha b o e hl2; omega) (fun e2 => by injection e2 with e2; have := ha b o e hl2; omega))⟩
theorem KpB.setCell {V : Nat → Int → Prop} {a : Option Addr} {len Bs n₀ : Nat} (W : World) {p : Addr} (hn : n₀ ≤ p.block) (hB : Bs ≠ p.block) (ha : ∀ b o, a = some ⟨b, o, none⟩ → 0 < len → b ≠ p.block) (u : Value) : KpB V a len Bs n₀ W (W.setCell p u) :=
 ⟨(Below.refl _ W).setCell hn u, Below.heap_setCell W p u Bs hB, fun r => rd_keep r (fun b o e hl => Below.heap_setCell W p u b (ha b o e hl))⟩
set_option maxRecDepth 100000 in
set_option maxHeartbeats 2000000 in
theorem back1_in (F : Fence) (n : Nat) (h7 : F.fn 174) (hro : F.round = none) (hn : 1 ≤ n) (l Bs n₀ len cap : Nat) (a : Option Addr) (V : Nat → Int → Prop) (hlen : len ≤ 1099511627776) (J Jx : List (BackA len V) → World → Prop)
  (hY : ∀ pre x W, J pre W → pre.length < len → YieldAt F (n - 1) Tryz.prog l #[.int .i64 (x.1.1 : Int), .int .i64 x.1.2] W fun e W' =>
   (e = .returned (.bool true) ∧ J (pre ++ [x]) W' ∧ KpB V a len Bs n₀ W W') ∨ (e = .returned (.bool false) ∧ Jx (pre ++ [x]) W'))
  (W : World) (hBs : W.cell? ⟨Bs, 0, none⟩ = some (.slice a len cap)) (hrd : Rd V a len W) (h0 : J [] W) :
  CallsIn F n Tryz.prog 174 #[.func (.yield l) #[] #[], .pointer (some ⟨Bs, 0, none⟩)] W fun e W' => (∃ v, e = .returned v) ∧
   ((∃ ys, ys.map idx = descN len len ∧ J ys W') ∨ (∃ pre, (∃ k, k ≤ len ∧ pre.map idx = descN len k) ∧ Jx pre W')) := by
 refine callsIn_of_wp Tryz.func174 rfl h7 ?_ hro
 simp only [Tryz.ntmps174, List.size_toArray, List.length_cons, List.length_nil, Nat.reduceAdd, Nat.reduceSub, Array.replicate_succ, Array.replicate_zero, List.push_toArray, List.append_toArray, List.nil_append, List.cons_append]
 gi_wp2
 gi_loopw [3] (fun i wr => (∃ (j : Nat) (pre : List (BackA len V)), j < len ∧ i = .int .i64 (j : Int) ∧ Hid (pre.map idx = descN len (len - 1 - j)) ∧ Hid (J pre wr) ∧ Hid (Rd V a len wr) ∧ wr.cell? ⟨Bs, 0, none⟩ = some (.slice a len cap)) ∨
   (∃ pre : List (BackA len V), i = .int .i64 (-1) ∧ Hid (pre.map idx = descN len len) ∧ Hid (J pre wr)))
  (fun i _ => (intOf i + 1).toNat)
 case atStart =>
  by_cases hl : 0 < len
  ·refine .inl ⟨len - 1, [], by omega, by go_num, by unfold Hid; rw [Nat.sub_self, descN_zero]; rfl, h0, hrd, hBs⟩
  ·obtain rfl : len = 0 := by omega
   exact .inr ⟨[], rfl, rfl, h0⟩
 case round =>
  rcases hrel with ⟨j, pre, hj, rfl, HP, HJ, HR, hbx⟩ | ⟨pre, rfl, HP, HJ⟩
  ·obtain ⟨b, o, z, ha, hv, hc⟩ := HR.out j hj
   have HV := Lib.hid hv
   clear hv
   have hpl : pre.length < len := by have := congrArg List.length HP.out; rw [List.length_map, descN_length] at this; omega
   obtain ⟨fn, tmps, assign, body, hy, hR⟩ := hY pre ⟨(j, z), hj, HV.out⟩ wr HJ.out hpl
   dsimp only at hy
   have HA := Lib.hid ha
   subst ha
   have HYY := Lib.hid hR
   have HBS := Lib.hid hBs
   clear hR hY hBs hrd h0 hpl
   gi_wp2
   refine HYY.out.mono ?_
   rintro e W3 (⟨rfl, hJ3, hk3⟩ | ⟨rfl, hJx3⟩)
   ·have HJ3 := Lib.hid hJ3
    have HK3 := Lib.hid hk3
    have hbx3 : W3.cell? ⟨Bs, 0, none⟩ = some (.slice (some ⟨b, o, none⟩) len cap) := (World.cell?_of_block (a := ⟨Bs, 0, none⟩) hk3.2.1).trans hbx
    have HRd := Lib.hid (hk3.2.2 HR.out)
    have HD : Hid ((pre ++ [(⟨(j, z), hj, HV.out⟩ : BackA len V)]).map idx = descN len (len - 1 - j + 1)) := by
     unfold Hid
     rw [List.map_append, HP.out, descN_succ]
     congr 1
     show [j] = _
     congr 1; omega
    clear hJ3 hk3 hbx
    gi_wp2
    go_roundw
    case rel =>
     by_cases hj0 : 0 < j
     ·exact .inl ⟨j - 1, _, by omega, by go_num, by rw [show len - 1 - (j - 1) = len - 1 - j + 1 by omega]; exact HD, HJ3, HRd, hbx3⟩
     ·exact .inr ⟨_, by go_num, by rw [show len - 1 - j + 1 = len by omega] at HD; exact HD, HJ3⟩
    case measure => simp [intOf]
   ·have HJ3 := Lib.hid hJx3
    have HD : Hid ((pre ++ [(⟨(j, z), hj, HV.out⟩ : BackA len V)]).map idx = descN len (len - 1 - j + 1)) := by
     unfold Hid
     rw [List.map_append, HP.out, descN_succ]
     congr 1
     show [j] = _
     congr 1; omega
    clear hJx3
    gi_wp2
    refine bodyPost_ret (results_none rfl _ _ _) rfl ?_
    exact ⟨⟨_, rfl⟩, .inr ⟨_, ⟨len - 1 - j + 1, by omega, HD.out⟩, HJ3.out⟩⟩
  ·gi_wp2
   go_end0
   exact ⟨⟨_, rfl⟩, .inl ⟨_, HP.out, HJ.out⟩⟩
theorem back_in (F : Fence) (n : Nat) (h5 : F.fn 148) (hro : F.round = none) (a : Option Addr) (len cap : Nat) (w : World) :
  CallsIn F n Tryz.prog 148 #[.slice a len cap] w fun e w' => e = .returned (.func (.func 174) #[] #[.pointer (some ⟨w.heap.size, 0, none⟩)]) ∧ w' = w.alloc (.cells #[.slice a len cap] 120) := by
 refine callsIn_of_wp Tryz.func148 rfl h5 ?_ hro
 simp only [Tryz.ntmps148, List.size_toArray, List.length_cons, List.length_nil, Nat.reduceAdd, Nat.reduceSub, Array.replicate_succ, Array.replicate_zero, List.push_toArray, List.append_toArray, List.nil_append, List.cons_append]
 gi_wp2
 go_ret
 exact ⟨rfl, rfl⟩
theorem back_stops (F : Fence) (n : Nat) (h7 : F.fn 174) (hro : F.round = none) (hn : 1 ≤ n) (Bs n₀ len cap : Nat) (a : Option Addr) (V : Nat → Int → Prop) (hlen : len ≤ 1099511627776) (w : World)
  (hc : w.cell? ⟨Bs, 0, none⟩ = some (.slice a len cap)) (hrd : Rd V a len w) :
  SeqStopsK F n Tryz.prog 174 #[.pointer (some ⟨Bs, 0, none⟩)] (fun x : BackA len V => #[Value.int .i64 (x.1.1 : Int), Value.int .i64 x.1.2]) (KpB V a len Bs n₀) (fun ys => ys.map idx = descN len len)
   (fun pre => ∃ k, k ≤ len ∧ pre.map idx = descN len k) len w := fun l J Jx W hW _ _ hY h0 =>
 back1_in F n h7 hro hn l Bs n₀ len cap a V hlen J Jx hY W
  ((hW.cell (p := ⟨Bs, 0, none⟩) (by have := World.block_lt_of_cell? w _ hc; simpa using this)).trans hc)
  (fun i hi => by
   obtain ⟨b, o, z, e, hv, hx⟩ := hrd i hi
   exact ⟨b, o, z, e, hv, (hW.cell (p := ⟨b, o + i, none⟩) (by have := World.block_lt_of_cell? w _ hx; simpa using this)).trans hx⟩) h0
end Go.Proofs.YtlepgkkpopjgoaaGreat
namespace Go.Proofs.YtlepgkkpopjgoaaGreat
set_option maxRecDepth 100000
set_option linter.unusedVariables false
set_option linter.unusedSimpArgs false
open Go.RowKit Go.Shelf
attribute [local go_sem] Oper.semAt_some
def VL (x : Nat) : Nat → Int → Prop := fun i z => z = (dig x i : Int)
theorem rd_limbs {x n cap : Nat} {a : Option Addr} {w : World} (h : RowOf iV w (.slice a n cap) (limI x)) : Rd (VL x) a n w := by
 obtain ⟨_, _, e, _, _, hr⟩ := h
 injection e with e1 e2 e3
 subst e1 e2
 intro i hi
 obtain ⟨b, o, e, hx⟩ := hr i hi
 rw [limI_get] at hx
 exact ⟨b, o, _, e, rfl, hx⟩
theorem rd_below {V : Nat → Int → Prop} {a : Option Addr} {n : Nat} {w w' : World} (h : Rd V a n w) (hb : Below w.heap.size w w') : Rd V a n w' := by
 intro i hi
 obtain ⟨b, o, z, e, hv, hx⟩ := h i hi
 exact ⟨b, o, z, e, hv, (hb.cell (p := ⟨b, o + i, none⟩) (by have := World.block_lt_of_cell? w _ hx; simpa using this)).trans hx⟩
def nfold (x : Nat) (l : List Nat) : Nat := l.foldl (fun m i => m * 1000000000 + dig x i) 0
theorem nfold_snoc (x : Nat) (l : List Nat) (i : Nat) : nfold x (l ++ [i]) = nfold x l * 1000000000 + dig x i := by simp [nfold]
theorem nfold_desc (x n : Nat) (hx : x < pw n) : ∀ k, k ≤ n → nfold x (descN n k) = x / pw (n - k)
 | 0, _ => by rw [descN_zero, Nat.sub_zero, Nat.div_eq_of_lt hx]; rfl
 | k + 1, h => by
  rw [descN_succ, nfold_snoc, nfold_desc x n hx k (by omega)]
  have := div_step x (n - 1 - k)
  rw [show n - 1 - k + 1 = n - k by omega] at this
  rw [show n - (k + 1) = n - 1 - k by omega, this]
def intR (x : Nat) : Value := .tuple #[.int .i64 (if x ≤ 9223372036854775807 then (x : Int) else 0), .bool (decide (x ≤ 9223372036854775807))]
theorem intR_yes {x : Nat} (h : x ≤ 9223372036854775807) : intR x = .tuple #[.int .i64 x, .bool true] := by unfold intR; rw [if_pos h, decide_eq_true h]
theorem intR_no {x : Nat} (h : ¬ x ≤ 9223372036854775807) : intR x = .tuple #[.int .i64 0, .bool false] := by unfold intR; rw [if_neg h, decide_eq_false h]
theorem rd_block {V : Nat → Int → Prop} {a : Option Addr} {n : Nat} {w : World} (h : Rd V a n w) : ∀ b o, a = some ⟨b, o, none⟩ → 0 < n → b < w.heap.size := fun b o e hn => by
 obtain ⟨b', o', z, e', _, hx⟩ := h 0 hn
 rw [e] at e'
 injection e' with e'
 injection e' with e1 e2
 subst e1 e2
 exact World.block_lt_of_cell? w _ hx
theorem boxed_shut {W : World} {B D : Nat} {t : TypeId} {v : Value} (h : Boxed W B t v) (hK : W.heap[D]? = some (.deferred (some []))) : (W.putObj D (.deferred none)).cell? ⟨B, 0, none⟩ = some v := by
 refine Boxed.cell (t := t) (h.kept (grownBy_putObj' W D (.deferred none)) (fun e => ?_))
 injection e with e
 subst e
 rw [show W.heap[B]? = _ from h] at hK
 cases hK
theorem below_shut {W w : World} {D h : Nat} (hb : Below h w W) (hD : h ≤ D) (hW : h ≤ W.heap.size) : Below h w (W.putObj D (.deferred none)) :=
 hb.grown (grownBy_putObj' W D (.deferred none)) hW (fun k e => by injection e with e; omega)
set_option maxRecDepth 100000 in
set_option maxHeartbeats 2000000 in
theorem impl_toInt (v : Value) (x : Nat) (w : World) (h : RowOf iV w v (limI x)) (hx : nlen x ≤ 1000) :
  Calls Tryz.prog 172 #[v] w fun e w' => e = .returned (intR x) ∧ Below w.heap.size w w' := by
 have H := Lib.hid h
 obtain ⟨a, cap, rfl, h1, h2, h3⟩ := h
 clear h1 h2 h3
 rw [limI_length] at H ⊢
 have hrd := Lib.hid (rd_limbs H.out)
 have HF := Lib.hid (nfold_desc x (nlen x) (lt_pw_nlen x))
 have hab := Lib.hid (rd_block hrd.out)
 obtain ⟨n, hn⟩ : ∃ n, nlen x = n := ⟨_, rfl⟩
 rw [hn] at hx H hrd HF hab ⊢
 clear hn
 refine (callsIn_wide (n := 3)).1 ?_
 refine callsIn_of_wp_marks Tryz.func172 rfl trivial ?_ rfl
 simp only [Tryz.ntmps172, List.size_toArray, List.length_cons, List.length_nil, Nat.reduceAdd, Nat.reduceSub, Array.replicate_succ, Array.replicate_zero, List.push_toArray, List.append_toArray, List.nil_append, List.cons_append]
 gi_wp2_with (refine ⟨trivial, ?_⟩; gi_at_call 148; refine (back_in Fence.wide _ trivial rfl _ _ _ _).mono ?_; rintro e w' ⟨rfl, rfl⟩)
 have b0 := Boxed.new w 3 (.int .i64 0)
 have b1 := Boxed.new (w.alloc (.cells #[.int .i64 0] 3)) 4 (.bool false)
 have b2 := Boxed.new ((w.alloc (.cells #[.int .i64 0] 3)).alloc (.cells #[.bool false] 4)) 3 (.int .i64 0)
 have b3 := Boxed.new (((w.alloc (.cells #[.int .i64 0] 3)).alloc (.cells #[.bool false] 4)).alloc (.cells #[.int .i64 0] 3)) 120 (.slice a n cap)
 have bB : Below w.heap.size w ((((w.alloc (.cells #[.int .i64 0] 3)).alloc (.cells #[.bool false] 4)).alloc (.cells #[.int .i64 0] 3)).alloc (.cells #[.slice a n cap] 120)) :=
  ((((Below.refl _ w).alloc (Nat.le_refl _) _).alloc (by simp) _).alloc (by simp; omega) _).alloc (by simp; omega) _
 have B0 := Lib.hid (((b0.alloc (.cells #[.bool false] 4)).alloc (.cells #[.int .i64 0] 3)).alloc (.cells #[.slice a n cap] 120))
 have B1 := Lib.hid ((b1.alloc (.cells #[.int .i64 0] 3)).alloc (.cells #[.slice a n cap] 120))
 have B2 := Lib.hid (b2.alloc (.cells #[.slice a n cap] 120))
 have B3 := Lib.hid b3
 have BB := Lib.hid bB
 have BS := Lib.hid (show ((((w.alloc (.cells #[.int .i64 0] 3)).alloc (.cells #[.bool false] 4)).alloc (.cells #[.int .i64 0] 3)).alloc (.cells #[.slice a n cap] 120)).heap.size = w.heap.size + 1 + 1 + 1 + 1 by simp)
 have BR := Lib.hid (rd_below hrd.out bB)
 clear b0 b1 b2 b3 bB
 simp only [World.size_alloc] at B0 B1 B2 B3
 generalize (((w.alloc (.cells #[.int .i64 0] 3)).alloc (.cells #[.bool false] 4)).alloc (.cells #[.int .i64 0] 3)).alloc (.cells #[.slice a n cap] 120) = W0 at B0 B1 B2 B3 BB BS BR ⊢
 obtain ⟨h, hh⟩ : ∃ h, w.heap.size = h := ⟨_, rfl⟩
 rw [hh] at B0 B1 B2 B3 BB BS hab ⊢
 have HH := Lib.hid hh
 clear hh
 have hS : W0.heap.size = h + 1 + 1 + 1 + 1 := BS.out
 have HS := Lib.hid hS
 refine wpIn_rangeFunc_ownG rfl (by omega) (gf := 174) (lb := #[.pointer (some ⟨h + 1 + 1 + 1, 0, none⟩)]) rfl trivial (enters_of Tryz.func174 (by kernel_rfl) rfl)
  (back_stops Fence.wide _ trivial rfl (by omega) (h + 1 + 1 + 1) h n cap a (VL x) (by omega) W0 B3.out.cell BR.out) (fun h k => KpB.trans h k) (KpB.putObj (by omega) (by omega) (fun b o e hl => by have := hab.out b o e hl; omega)) (Below.refl _ _) (fun _ => rfl)
  (fun pre W => (Boxed W h 3 (.int .i64 0) ∧ Boxed W (h + 1) 4 (.bool false) ∧ Boxed W (h + 1 + 1) 3 (.int .i64 (nfold x (pre.map idx) : Nat)) ∧ nfold x (pre.map idx) ≤ 9223372036854775807) ∧ Below h w W)
  (fun c pre W => (c = .ret ∧ Boxed W h 3 (.int .i64 0) ∧ Boxed W (h + 1) 4 (.bool false) ∧ 9223372036854775807 < nfold x (pre.map idx)) ∧ Below h w W)
  (OwnFrom.and (Own.from (fun s A B row hs hg hr => ⟨boxed_own _ _ (fun _ : List (BackA n (VL x)) => _) s A B row hs.1 hg hr, boxed_own _ _ (fun _ : List (BackA n (VL x)) => _) s A B row hs.2.1 hg hr, boxed_own _ _ (fun s : List (BackA n (VL x)) => .int .i64 (nfold x (s.map idx) : Nat)) s A B row hs.2.2.1 hg hr, hs.2.2.2⟩) _) (ownFrom_below (by rw [HH.out]; exact Nat.le_refl _) (by omega)))
  (fun c => OwnFrom.and (Own.from (fun s A B row hs hg hr => ⟨hs.1, boxed_own _ _ (fun _ : List (BackA n (VL x)) => _) s A B row hs.2.1 hg hr, boxed_own _ _ (fun _ : List (BackA n (VL x)) => _) s A B row hs.2.2.1 hg hr, hs.2.2.2⟩) _) (ownFrom_below (by rw [HH.out]; exact Nat.le_refl _) (by omega)))
  ⟨⟨B0.out, B1.out, B2.out, by simp [nfold]⟩, BB.out⟩
  (fun y => { tmps := #[.slice a n cap, undef, .pointer (some ⟨h, 0, none⟩), .pointer (some ⟨h + 1, 0, none⟩), .pointer (some ⟨h + 1 + 1, 0, none⟩), undef, .int .i64 y.1.2, .slice a n cap, .func (.func 174) #[] #[.pointer (some ⟨h + 1 + 1 + 1, 0, none⟩)], .int .i64 (y.1.1 : Int), .int .i64 y.1.2, undef, undef, undef, undef, undef, undef, undef, undef, undef, undef], defers := [] }) ?assign ?body ?done ?stop
 case assign =>
  intro l y W K hK
  gi_wp2
  exact hK
 case body =>
  rintro l pre y W ⟨⟨h0, h1, h2, hle⟩, hB⟩ _
  have HF1 := Lib.hid (nfold_snoc x (pre.map idx) y.1.1)
  have hd := dig_lt x y.1.1
  have hy : y.1.2 = (dig x y.1.1 : Int) := y.2.2
  have hmap : Hid ((pre ++ [y]).map idx = pre.map idx ++ [y.1.1]) := by unfold Hid; rw [List.map_append]; rfl
  rw [hy]
  obtain ⟨d, hde⟩ : ∃ d, dig x y.1.1 = d := ⟨_, rfl⟩
  rw [hde] at hd HF1 ⊢
  obtain ⟨m, hm⟩ : ∃ m, nfold x (pre.map idx) = m := ⟨_, rfl⟩
  rw [hm] at h2 hle HF1
  have K0 := Lib.hid h0
  have K1 := Lib.hid h1
  have K2 := Lib.hid h2
  have KB := Lib.hid hB
  have c0 := h0.cell
  have f0 := h0.frozen
  have c1 := h1.cell
  have f1 := h1.frozen
  have c2 := h2.cell
  have f2 := h2.frozen
  have hab1 := Lib.hid (fun b o e hl => Nat.ne_of_lt (hab.out b o e hl))
  clear hde hm h0 h1 h2 hB hy
  by_cases hgo : (m : Int) ≤ (9223372036854775807 - (d : Int)) / 1000000000
  ·gi_wp2
   refine ⟨(KeepsOthers.setCell _ _ _).from _, KpB.setCell _ (by simp; omega) (by simp) (fun b o e hl => by have := hab.out b o e hl; simp; omega) _, ⟨K0.out.other (by omega) _, K1.out.other (by omega) _, ?_, ?_⟩, KB.out.setCell (p := ⟨h + 1 + 1, 0, none⟩) (by simp; omega) _⟩
   ·rw [hmap.out, HF1.out]
    exact K2.out.set _
   ·rw [hmap.out, HF1.out]; omega
  ·gi_wp2
   refine ⟨((KeepsOthers.setCell _ _ _).trans (KeepsOthers.setCell _ _ _)).from _, ⟨rfl, (K0.out.set _).other (by omega) _, (K1.out.other (by omega) _).set _, ?_⟩, (KB.out.setCell (p := ⟨h, 0, none⟩) (Nat.le_refl _) _).setCell (p := ⟨h + 1, 0, none⟩) (by simp) _⟩
   rw [hmap.out, HF1.out]; omega
 case done =>
  rintro D ys W hD hS ⟨⟨h0, h1, h2, hle⟩, hB⟩ hK
  have hf := HF.out n (Nat.le_refl _)
  rw [Nat.sub_self, pw_zero, Nat.div_one] at hf
  rw [hS, hf] at h2 hle
  have K0 := Lib.hid h0
  have K1 := Lib.hid h1
  have KB := Lib.hid hB
  have HK := Lib.hid hK
  have c0 := h0.cell
  have f0 := h0.frozen
  have c1 := h1.cell
  have f1 := h1.frozen
  have c2 := h2.cell
  have HR := Lib.hid (intR_yes hle)
  have HDD := Lib.hid hD
  clear hf hS h0 h1 h2 hB hK hle hD
  gi_wp2
  have hK' := ((KeepsOthers.setCell W ⟨h, 0, none⟩ (.int .i64 x)).trans (KeepsOthers.setCell _ ⟨h + 1, 0, none⟩ (.bool true))).same D _ HK.out rfl
  have e0 := boxed_shut ((K0.out.set (.int .i64 x)).other (B' := h + 1) (by omega) (.bool true)) hK'
  have e1 := boxed_shut ((K1.out.other (B' := h) (by omega) (.int .i64 x)).set (.bool true)) hK'
  have hBl := (KB.out.setCell (p := ⟨h, 0, none⟩) (Nat.le_refl _) (.int .i64 x)).setCell (p := ⟨h + 1, 0, none⟩) (by simp) (.bool true)
  refine ⟨by simp, .inl ⟨_, _, rfl, run_takeDeferred hK', ?_⟩⟩
  refine ⟨.tuple #[.int .i64 x, .bool true], ?_, by rw [HR.out], by rw [HH.out]; exact below_shut hBl (by have := HDD.out; omega) (by have := hBl.size; rw [HH.out] at this; exact this)⟩
  simp [results, Tryz.f172, go_sem, e0, e1]
 case stop =>
  rintro D c pre W hD ⟨k, hk, hp⟩ ⟨⟨rfl, h0, h1, hgt⟩, hB⟩ hK
  have hf := HF.out k hk
  rw [hp, hf] at hgt
  have hxl : ¬ x ≤ 9223372036854775807 := by have := Nat.div_le_self x (pw (n - k)); omega
  have HR := Lib.hid (intR_no hxl)
  have e0 := boxed_shut h0 hK
  have e1 := boxed_shut h1 hK
  clear hf hp hgt hxl
  gi_wp2
  refine ⟨by simp, .inl ⟨_, _, rfl, run_takeDeferred hK, ?_⟩⟩
  refine ⟨.tuple #[.int .i64 0, .bool false], ?_, by rw [HR.out], by rw [HH.out]; exact below_shut hB (by omega) (by have := hB.size; rw [HH.out] at this; exact this)⟩
  simp [results, Tryz.f172, go_sem, e0, e1]
end Go.Proofs.YtlepgkkpopjgoaaGreat
namespace Go.Proofs.YtlepgkkpopjgoaaGreat
set_option maxRecDepth 100000
set_option linter.unusedVariables false
set_option linter.unusedSimpArgs false
open Go.RowKit Go.Shelf
attribute [local go_sem] Oper.semAt_some
def cmpI (a b : Int) : Int := if a < b then -1 else if b < a then 1 else 0
theorem cmpI_nat (x y : Nat) : cmpI (x : Int) (y : Int) = cmpN x y := by
 unfold cmpI cmpN
 split <;> split <;> (try split) <;> omega
set_option maxHeartbeats 400000 in
theorem is_nan (a : Int) (w : World) :
  Calls Tryz.prog 173 #[.int .i64 a] w fun e w' => e = .returned (.bool false) ∧ w' = w := by
 have h : (a != a) = false := by simp
 go_enter Tryz.func173, Tryz.ntmps173
 go_wp2
 go_ret
 exact ⟨rfl, rfl⟩
set_option maxHeartbeats 400000 in
theorem cmp_ints (a b : Int) (w : World) :
  Calls Tryz.prog 147 #[.int .i64 a, .int .i64 b] w fun e w' => e = .returned (.int .i64 (cmpI a b)) ∧ w' = w := by
 have HC : Hid (cmpI a b = if a < b then -1 else if b < a then 1 else 0) := rfl
 by_cases h1 : a < b
 ·rw [if_pos h1] at HC
  go_enter Tryz.func147, Tryz.ntmps147
  go_wp2_with (first | (go_at_call 173; refine (is_nan _ _).mono ?_; rintro e w' ⟨rfl, rfl⟩))
  go_ret
  exact ⟨by rw [HC.out]; rfl, rfl⟩
 ·rw [if_neg h1] at HC
  by_cases h2 : b < a
  ·rw [if_pos h2] at HC
   go_enter Tryz.func147, Tryz.ntmps147
   go_wp2_with (first | (go_at_call 173; refine (is_nan _ _).mono ?_; rintro e w' ⟨rfl, rfl⟩))
   go_ret
   exact ⟨by rw [HC.out]; rfl, rfl⟩
  ·rw [if_neg h2] at HC
   go_enter Tryz.func147, Tryz.ntmps147
   go_wp2_with (first | (go_at_call 173; refine (is_nan _ _).mono ?_; rintro e w' ⟨rfl, rfl⟩))
   go_ret
   exact ⟨by rw [HC.out]; rfl, rfl⟩
theorem agree_desc (x y n : Nat) (hx : x < pw n) (hy : y < pw n) : ∀ k, k ≤ n → (∀ i ∈ descN n k, dig x i = dig y i) → x / pw (n - k) = y / pw (n - k)
 | 0, _, _ => by rw [Nat.sub_zero]; exact cmp_start hx hy
 | k + 1, hk, h => by
  rw [descN_succ] at h
  have ih := agree_desc x y n hx hy k (by omega) (fun i hi => h i (by simp [hi]))
  have hd := h (n - 1 - k) (by simp)
  rw [show n - k = (n - 1 - k) + 1 by omega] at ih
  have := cmp_up ih hd
  rw [show n - (k + 1) = n - 1 - k by omega]
  exact this
theorem cmp_of_digit {x y i : Nat} (h : x / pw (i + 1) = y / pw (i + 1)) (hd : dig x i ≠ dig y i) : cmpI (dig x i) (dig y i) = cmpN x y := by
 rcases Nat.lt_or_ge (dig x i) (dig y i) with h1 | h1
 ·rw [cmpN_lt (cmp_lt h h1)]; unfold cmpI; rw [if_pos (by omega)]
 ·rw [cmpN_gt (cmp_lt h.symm (by omega))]; unfold cmpI; rw [if_neg (by omega), if_pos (by omega)]
def Agree (x y : Nat) (l : List Nat) : Prop := ∀ i ∈ l, dig x i = dig y i
theorem agree_snoc {x y i : Nat} {l : List Nat} (h : Agree x y l) (hi : dig x i = dig y i) : Agree x y (l ++ [i]) := by
 intro j hj
 rcases List.mem_append.1 hj with hj | hj
 ·exact h j hj
 ·obtain rfl : j = i := by simpa using hj
  exact hi
def Parted (x y : Nat) (l : List Nat) (B : Nat) (W : World) : Prop := ∃ ini i, l = ini ++ [i] ∧ Agree x y ini ∧ dig x i ≠ dig y i ∧ Boxed W B 3 (.int .i64 (cmpI (dig x i) (dig y i)))
set_option maxRecDepth 100000 in
set_option maxHeartbeats 2000000 in
theorem impl_compare (va vb : Value) (x y : Nat) (w : World) (ha : RowOf iV w va (limI x)) (hb : RowOf iV w vb (limI y)) (hx : nlen x ≤ 1000) (hy : nlen y ≤ 1000) :
  Calls Tryz.prog 111 #[va, vb] w fun e w' => e = .returned (.int .i64 (cmpN x y)) ∧ Below w.heap.size w w' := by
 have H := Lib.hid ha
 have H2 := Lib.hid hb
 obtain ⟨a, cap, rfl, h1, h2, h3⟩ := ha
 obtain ⟨b, cb, rfl, h4, h5, h6⟩ := hb
 clear h1 h2 h3 h4 h5 h6
 rw [limI_length] at H H2 ⊢
 rw [limI_length]
 have hrd := Lib.hid (rd_limbs H.out)
 have hrd2 := Lib.hid (rd_limbs H2.out)
 have hab := Lib.hid (rd_block hrd.out)
 by_cases hlen : nlen x = nlen y
 ·have HA : Hid (∀ k, k ≤ nlen x → Agree x y (descN (nlen x) k) → x / pw (nlen x - k) = y / pw (nlen x - k)) := agree_desc x y (nlen x) (lt_pw_nlen x) (by rw [hlen]; exact lt_pw_nlen y)
  obtain ⟨n, hn⟩ : ∃ n, nlen x = n := ⟨_, rfl⟩
  rw [← hlen] at H2 hrd2 ⊢
  rw [hn] at hx H hrd H2 hrd2 HA hab ⊢
  clear hn hlen hy
  have hneq : ((n : Int) != (n : Int)) = false := by simp
  refine (callsIn_wide (n := 3)).1 ?_
  refine callsIn_of_wp_marks Tryz.func111 rfl trivial ?_ rfl
  simp only [Tryz.ntmps111, List.size_toArray, List.length_cons, List.length_nil, Nat.reduceAdd, Nat.reduceSub, Array.replicate_succ, Array.replicate_zero, List.push_toArray, List.append_toArray, List.nil_append, List.cons_append]
  gi_wp2_with (refine ⟨trivial, ?_⟩; gi_at_call 148; refine (back_in Fence.wide _ trivial rfl _ _ _ _).mono ?_; rintro e w' ⟨rfl, rfl⟩)
  clear hneq
  have b0 := Boxed.new w 120 (.slice b n cb)
  have b1 := Boxed.new (w.alloc (.cells #[.slice b n cb] 120)) 3 (.int .i64 0)
  have b2 := Boxed.new ((w.alloc (.cells #[.slice b n cb] 120)).alloc (.cells #[.int .i64 0] 3)) 120 (.slice a n cap)
  have bB : Below w.heap.size w (((w.alloc (.cells #[.slice b n cb] 120)).alloc (.cells #[.int .i64 0] 3)).alloc (.cells #[.slice a n cap] 120)) :=
   (((Below.refl _ w).alloc (Nat.le_refl _) _).alloc (by simp) _).alloc (by simp; omega) _
  have B0 := Lib.hid ((b0.alloc (.cells #[.int .i64 0] 3)).alloc (.cells #[.slice a n cap] 120))
  have B1 := Lib.hid (b1.alloc (.cells #[.slice a n cap] 120))
  have B2 := Lib.hid b2
  have BB := Lib.hid bB
  have BS := Lib.hid (show (((w.alloc (.cells #[.slice b n cb] 120)).alloc (.cells #[.int .i64 0] 3)).alloc (.cells #[.slice a n cap] 120)).heap.size = w.heap.size + 1 + 1 + 1 by simp)
  have BR := Lib.hid (rd_below hrd.out bB)
  clear b0 b1 b2 bB
  simp only [World.size_alloc] at B0 B1 B2
  generalize ((w.alloc (.cells #[.slice b n cb] 120)).alloc (.cells #[.int .i64 0] 3)).alloc (.cells #[.slice a n cap] 120) = W0 at B0 B1 B2 BB BS BR ⊢
  obtain ⟨h, hh⟩ : ∃ h, w.heap.size = h := ⟨_, rfl⟩
  rw [hh] at B0 B1 B2 BB BS hab ⊢
  have HH := Lib.hid hh
  clear hh
  have hS : W0.heap.size = h + 1 + 1 + 1 := BS.out
  refine wpIn_rangeFunc_ownG rfl (by omega) (gf := 174) (lb := #[.pointer (some ⟨h + 1 + 1, 0, none⟩)]) rfl trivial (enters_of Tryz.func174 (by kernel_rfl) rfl)
   (back_stops Fence.wide _ trivial rfl (by omega) (h + 1 + 1) h n cap a (VL x) (by omega) W0 B2.out.cell BR.out) (fun h k => KpB.trans h k) (KpB.putObj (by omega) (by omega) (fun b o e hl => by have := hab.out b o e hl; omega)) (Below.refl _ _) (fun _ => rfl)
   (fun pre W => (Boxed W h 120 (.slice b n cb) ∧ Boxed W (h + 1) 3 (.int .i64 0) ∧ Agree x y (pre.map idx)) ∧ Below h w W)
   (fun c pre W => (c = .ret ∧ Parted x y (pre.map idx) (h + 1) W) ∧ Below h w W)
   (OwnFrom.and (Own.from (fun s A B row hs hg hr => ⟨boxed_own _ _ (fun _ : List (BackA n (VL x)) => _) s A B row hs.1 hg hr, boxed_own _ _ (fun _ : List (BackA n (VL x)) => _) s A B row hs.2.1 hg hr, hs.2.2⟩) _) (ownFrom_below (by rw [HH.out]; exact Nat.le_refl _) (by omega)))
   (fun c => OwnFrom.and (Own.from (fun s A B row hs hg hr => by
    obtain ⟨e1, ini, i, e2, e3, e4, e5⟩ := hs
    exact ⟨e1, ini, i, e2, e3, e4, boxed_own _ _ (fun _ : List (BackA n (VL x)) => _) s A B row e5 hg hr⟩) _) (ownFrom_below (by rw [HH.out]; exact Nat.le_refl _) (by omega)))
   ⟨⟨B0.out, B1.out, fun i hi => by simp at hi⟩, BB.out⟩
   (fun z => { tmps := #[.slice a n cap, .slice b n cb, undef, .pointer (some ⟨h, 0, none⟩), .pointer (some ⟨h + 1, 0, none⟩), .int .i64 (z.1.1 : Int), .int .i64 z.1.2, .slice a n cap, .int .i64 n, .slice b n cb, .int .i64 n, .bool false, undef, undef, undef, undef, undef, .slice a n cap, .func (.func 174) #[] #[.pointer (some ⟨h + 1 + 1, 0, none⟩)], .int .i64 (z.1.1 : Int), .int .i64 z.1.2, undef, undef, undef, undef, undef, undef, undef, undef, undef, undef, undef, undef], defers := [] }) ?assign ?body ?done ?stop
  case assign =>
   intro l z W K hK
   gi_wp2
   exact hK
  case body =>
   rintro l pre z W ⟨⟨h0, h1, he⟩, hB⟩ _
   have hi := z.2.1
   have hz : z.1.2 = (dig x z.1.1 : Int) := z.2.2
   have hmap : Hid ((pre ++ [z]).map idx = pre.map idx ++ [z.1.1]) := by unfold Hid; rw [List.map_append]; rfl
   rw [hz]
   obtain ⟨i, hie⟩ : ∃ i, z.1.1 = i := ⟨_, rfl⟩
   rw [hie] at hi hmap ⊢
   obtain ⟨b', o', z', he1, he2, hce⟩ := hrd2.out i hi
   have hblk := World.block_lt_of_cell? w _ hce
   have hce1 : W.cell? ⟨b', o' + i, none⟩ = some (.int .i64 z') := (hB.cell (p := ⟨b', o' + i, none⟩) (by rw [← HH.out]; simpa using hblk)).trans hce
   have he2' : z' = (dig y i : Int) := he2
   subst he2'
   have HE1 := Lib.hid he1
   subst he1
   obtain ⟨dx, hdx⟩ : ∃ d, dig x i = d := ⟨_, rfl⟩
   obtain ⟨dy, hdy⟩ : ∃ d, dig y i = d := ⟨_, rfl⟩
   have HDX := Lib.hid hdx
   have HDY := Lib.hid hdy
   rw [hdy] at hce1
   rw [hdx]
   have K0 := Lib.hid h0
   have K1 := Lib.hid h1
   have KB := Lib.hid hB
   have KE := Lib.hid he
   have c0 := h0.cell
   have c1 := h1.cell
   have f1 := h1.frozen
   have HI := Lib.hid hi
   clear hdx hdy h0 h1 hB he he2 hce hz hie hblk
   by_cases hd : dx = dy
   ·have hne : ((dx : Int) != (dy : Int)) = false := by simp; omega
    have HD := Lib.hid hd
    clear hd
    have hi2 : (i : Int) < n := by omega
    gi_wp2
    refine ⟨KeepsFrom.refl _ _, KpB.refl _, ⟨K0.out, K1.out, ?_⟩, KB.out⟩
    rw [hmap.out]
    exact agree_snoc KE.out (by rw [HDX.out, HDY.out, HD.out])
   ·have hne : ((dx : Int) != (dy : Int)) = true := by simp; omega
    have HD := Lib.hid hd
    clear hd
    have hi2 : (i : Int) < n := by omega
    gi_wp2_with (refine ⟨trivial, ?_⟩; gi_at_call 147; refine (CallsIn.inRound l (callsIn_wide.2 (cmp_ints _ _ _))).mono ?_; rintro e w' ⟨rfl, rfl⟩)
    refine ⟨(KeepsOthers.setCell _ _ _).from _, ⟨rfl, _, i, hmap.out, KE.out, by rw [HDX.out, HDY.out]; exact HD.out, ?_⟩, KB.out.setCell (p := ⟨h + 1, 0, none⟩) (by simp) _⟩
    rw [HDX.out, HDY.out]
    exact K1.out.set _
  case done =>
   rintro D ys W hD hS ⟨⟨h0, h1, he⟩, hB⟩ hK
   rw [hS] at he
   have hxy := HA.out n (Nat.le_refl _) he
   rw [Nat.sub_self] at hxy
   have hxy := cmp_end hxy
   have HR : Hid (cmpN x y = 0) := by unfold Hid; rw [hxy]; exact cmpN_eq y
   have K1 := Lib.hid h1
   have KB := Lib.hid hB
   have HK := Lib.hid hK
   have c1 := h1.cell
   have f1 := h1.frozen
   have HDD := Lib.hid hD
   clear hS h0 h1 hB hK hD hxy he
   gi_wp2
   have hK' := (KeepsOthers.setCell W ⟨h + 1, 0, none⟩ (.int .i64 0)).same D _ HK.out rfl
   have e1 := boxed_shut (K1.out.set (.int .i64 0)) hK'
   have hBl := KB.out.setCell (p := ⟨h + 1, 0, none⟩) (by simp) (.int .i64 0)
   refine ⟨by simp, .inl ⟨_, _, rfl, run_takeDeferred hK', ?_⟩⟩
   refine ⟨.int .i64 0, ?_, by rw [HR.out], by rw [HH.out]; exact below_shut hBl (by have := HDD.out; omega) (by have := hBl.size; rw [HH.out] at this; exact this)⟩
   simp [results, Tryz.f111, go_sem, e1]
  case stop =>
   rintro D c pre W hD ⟨k, hk, hp⟩ ⟨⟨rfl, ini, i, e1, e2, e3, h1⟩, hB⟩ hK
   rw [hp] at e1
   obtain ⟨j, rfl⟩ : ∃ j, k = j + 1 := by
    cases k with
    | zero => simp [descN] at e1
    | succ k' => exact ⟨k', rfl⟩
   rw [descN_succ] at e1
   obtain ⟨e4, e5⟩ := List.append_inj' e1 rfl
   obtain rfl : n - 1 - j = i := by simpa using e5
   have hxy := HA.out j (by omega) (by rw [e4]; exact e2)
   rw [show n - j = (n - 1 - j) + 1 by omega] at hxy
   have HR := Lib.hid (cmp_of_digit hxy e3)
   have e1' := boxed_shut h1 hK
   clear e1 e2 e3 e4 e5 hp hxy
   gi_wp2
   refine ⟨by simp, .inl ⟨_, _, rfl, run_takeDeferred hK, ?_⟩⟩
   refine ⟨.int .i64 (cmpI (dig x (n - 1 - j)) (dig y (n - 1 - j))), ?_, by rw [HR.out], by rw [HH.out]; exact below_shut hB (by omega) (by have := hB.size; rw [HH.out] at this; exact this)⟩
   simp [results, Tryz.f111, go_sem, e1']
 ·have HR : Hid (cmpI (nlen x) (nlen y) = cmpN x y) := by
   unfold Hid
   rw [cmpI_nat]
   rcases Nat.lt_or_ge (nlen x) (nlen y) with h1 | h1
   ·rw [cmpN_lt h1, cmpN_lt (lt_of_nlen h1)]
   ·rw [cmpN_gt (show nlen y < nlen x by omega), cmpN_gt (lt_of_nlen (show nlen y < nlen x by omega))]
  have hneq : ((nlen x : Int) != (nlen y : Int)) = true := by simp; omega
  have HL := Lib.hid hlen
  clear hlen
  go_enter Tryz.func111, Tryz.ntmps111
  go_wp2_with (go_at_call 147; refine (cmp_ints _ _ _).mono ?_; rintro e w' ⟨rfl, rfl⟩)
  refine bodyPost_ret (v := .int .i64 (cmpI (nlen x) (nlen y))) ?_ rfl ⟨by rw [HR.out], ?_⟩
  ·simp [results, Tryz.results111, go_sem]
  ·exact ((Below.refl _ w).alloc (Nat.le_refl _) _).alloc (by simp) _
end Go.Proofs.YtlepgkkpopjgoaaGreat
namespace Go.Proofs.YtlepgkkpopjgoaaGreat
set_option maxRecDepth 100000
set_option linter.unusedVariables false
set_option linter.unusedSimpArgs false
open Go.RowKit
set_option maxHeartbeats 1000000 in
theorem spec_cmp (va vb : Value) (x y : Nat) (w : World) (ha : RowOf iV w va (limI x)) (hb : RowOf iV w vb (limI y)) (hx : nlen x ≤ 1000) (hy : nlen y ≤ 1000) :
  Calls Tryz.prog 180 #[va, vb] w fun e w' => e = .returned (.int .i64 (cmpN x y)) ∧ Below w.heap.size w w' := by
 have RA := Lib.hid ha
 have RB := Lib.hid hb
 obtain ⟨a, cap, rfl, h1, h2, h3⟩ := ha
 obtain ⟨b, cb, rfl, h4, h5, h6⟩ := hb
 clear h1 h2 h3 h4 h5 h6
 rw [limI_length] at RA RB ⊢
 rw [limI_length]
 by_cases hlen : nlen x = nlen y
 ·have HLX := Lib.hid (lt_pw_nlen x)
  have HLY := Lib.hid (lt_pw_nlen y)
  rw [← hlen] at HLY RB ⊢
  have HNX : Hid (nlen x = nlen x) := rfl
  have HNY := Lib.hid hlen
  obtain ⟨n, hn⟩ : ∃ n, nlen x = n := ⟨_, rfl⟩
  rw [hn] at hx RA RB HLX HLY HNY ⊢
  have HN := Lib.hid hn
  clear hn hlen hy HNX
  have hneq : ((n : Int) != (n : Int)) = false := by simp
  go_enter Tryz.func180, Tryz.ntmps180
  go_wp2
  clear hneq
  go_loopw [5] (fun i wr => ((∃ j : Nat, j < n ∧ i = .int .i64 (j : Int) ∧ Hid (x / pw (j + 1) = y / pw (j + 1))) ∨ (i = .int .i64 (-1) ∧ Hid (x = y))) ∧ ∃ q, wr = w.drewN q) (fun i _ => (intOf i + 1).toNat)
  case atStart =>
   refine ⟨?_, 0, rfl⟩
   by_cases hl : 0 < n
   ·exact .inl ⟨n - 1, by omega, by go_num, by rw [show n - 1 + 1 = n by omega]; exact cmp_start HLX.out HLY.out⟩
   ·obtain rfl : n = 0 := by omega
    exact .inr ⟨rfl, by have h1 := HLX.out; have h2 := HLY.out; rw [pw_zero] at h1 h2; unfold Hid; omega⟩
  case round =>
   obtain ⟨hc, q, rfl⟩ := hrel
   rcases hc with ⟨j, hj, rfl, HE⟩ | ⟨rfl, HE⟩
   ·obtain ⟨b1, o1, rfl, hx1⟩ := row_limb RA.out (k := j) (by rw [HN.out]; exact hj)
    obtain ⟨b2, o2, rfl, hx2⟩ := row_limb RB.out (k := j) (by rw [← HNY.out]; exact hj)
    have HL := Lib.hid (fun h => cmp_lt HE.out h)
    have HG := Lib.hid (fun h => cmp_lt HE.out.symm h)
    have HU := Lib.hid (fun h => cmp_up HE.out h)
    obtain ⟨dx, hdx⟩ : ∃ d, dig x j = d := ⟨_, rfl⟩
    obtain ⟨dy, hdy⟩ : ∃ d, dig y j = d := ⟨_, rfl⟩
    rw [hdx] at hx1 HL HG HU
    rw [hdy] at hx2 HL HG HU
    clear hdx hdy
    by_cases h1 : dx < dy
    ·have HR := Lib.hid (cmpN_lt (HL.out h1))
     have h1i : (dx : Int) < (dy : Int) := by omega
     go_wp2
     go_region
     go_wp2
     go_ret
     exact ⟨by rw [HR.out]; rfl, below_drewN (Below.refl _ _) _⟩
    ·by_cases h2 : dy < dx
     ·have HR := Lib.hid (cmpN_gt (HG.out h2))
      go_wp2
      go_region
      go_wp2
      go_region
      go_wp2
      go_ret
      exact ⟨by rw [HR.out]; rfl, below_drewN (Below.refl _ _) _⟩
     ·have HR := Lib.hid (HU.out (by omega))
      go_wp2
      go_region
      go_wp2
      go_region
      go_wp2
      go_roundw
      case rel =>
       refine ⟨?_, q + 2, rfl⟩
       by_cases hj0 : 0 < j
       ·exact .inl ⟨j - 1, by omega, by go_num, by rw [show j - 1 + 1 = j by omega]; exact HR⟩
       ·exact .inr ⟨by go_num, by have := HR.out; rw [show j = 0 by omega] at this; exact cmp_end this⟩
      case measure => simp [intOf]
   ·have HR : Hid (cmpN x y = 0) := by unfold Hid; rw [HE.out]; exact cmpN_eq y
    go_wp2
    go_ret
    exact ⟨by rw [HR.out]; rfl, below_drewN (Below.refl _ _) _⟩
 ·have hneq : ((nlen x : Int) != (nlen y : Int)) = true := by simp; omega
  by_cases h1 : nlen x < nlen y
  ·have HR := Lib.hid (cmpN_lt (lt_of_nlen h1))
   clear hlen
   go_enter Tryz.func180, Tryz.ntmps180
   go_wp2
   go_ret
   exact ⟨by rw [HR.out]; rfl, Below.refl _ _⟩
  ·have HR := Lib.hid (cmpN_gt (lt_of_nlen (show nlen y < nlen x by omega)))
   clear hlen
   go_enter Tryz.func180, Tryz.ntmps180
   go_wp2
   go_ret
   exact ⟨by rw [HR.out]; rfl, Below.refl _ _⟩
theorem sub_step {x y i : Nat} (hxy : y ≤ x) {l p q : Int} (hl : l = -comC 1 (-1) x y i) (hp : p = (dig x i : Int)) (hq : q = (dig y i : Int)) : (p - l - q) % 1000000000 = digF (x - y) i ∧ (p - l - q) / 1000000000 = comC 1 (-1) x y (i + 1) := by
 have h := com_step (m := 1) (n := -1) (x := x) (y := y) (T := x - y) (i := i) (by omega) (c := -l) (by omega) (p := p) (q := -q) (t := p - l - q) (by rw [hp]; omega) (by rw [hq]; omega) (by omega)
 exact h
set_option maxHeartbeats 1000000 in
theorem spec_sub (va vb : Value) (x y : Nat) (w : World) (ha : RowOf iV w va (limI x)) (hb : RowOf iV w vb (limI y)) (hxy : y ≤ x) (hx : nlen x ≤ 1000) (hy : nlen y ≤ 1000) :
  Calls Tryz.prog 182 #[va, vb] w fun e w' => ∃ v, e = .returned v ∧ OwnI w' w.heap.size v (limI (x - y)) ∧ Below w.heap.size w w' := by
 have RA := Lib.hid ha
 have RB := Lib.hid hb
 obtain ⟨aa, ca, rfl, h1, h2, h3⟩ := ha
 obtain ⟨ab, cb, rfl, h4, h5, h6⟩ := hb
 clear h1 h2 h3 h4 h5 h6
 rw [limI_length] at RA RB ⊢
 rw [limI_length]
 have HY := fun k => Lib.hid (fun h : nlen y ≤ k => dig_past h)
 have HS := Lib.hid (fun (i : Nat) (l p q : Int) hl hp hq => sub_step (i := i) (l := l) (p := p) (q := q) hxy hl hp hq)
 have HC := Lib.hid (fun i => comC_less x y i)
 have HT := Lib.hid (show nlen (x - y) ≤ nlen x from nlen_mono (Nat.sub_le _ _))
 obtain ⟨nx, hnx⟩ : ∃ nx, nlen x = nx := ⟨_, rfl⟩
 obtain ⟨ny, hny⟩ : ∃ ny, nlen y = ny := ⟨_, rfl⟩
 rw [hnx] at hx RA HT ⊢
 rw [hny] at hy RB HY ⊢
 have HNX := Lib.hid hnx
 have HNY := Lib.hid hny
 clear hnx hny hxy
 go_enter Tryz.func182, Tryz.ntmps182
 go_wp2
 go_loopw [5, 6, 12] (fun ov cv iv wr => ∃ (k : Nat) (l : Int), k ≤ nx ∧ iv = .int .i64 k ∧ cv = .int .i64 l ∧ 0 ≤ l ∧ l ≤ 1 ∧ Hid (l = -comC 1 (-1) x y k) ∧ Hid (OwnI wr w.heap.size ov (listF k (digF (x - y)))) ∧ Hid (Below w.heap.size w wr)) (fun _ _ iv _ => nx - (intOf iv).toNat)
 case atStart => exact ⟨0, 0, Nat.zero_le _, rfl, rfl, by omega, by omega, by unfold Hid; rw [comC_zero]; rfl, OwnI.lit0 w, (Below.refl _ w).alloc (Nat.le_refl _) _⟩
 case round =>
  obtain ⟨k, l, hk, rfl, rfl, hl0, hl1, HL, HO, HB⟩ := hrel
  obtain ⟨v, rfl⟩ : ∃ v, v = u5 := ⟨_, rfl⟩
  have hln : (listF k (digF (x - y))).length ≤ 1099511627776 := by rw [listF_length]; omega
  have hcs : ∀ o, w.heap.size ≤ (wr.alloc o).heap.size := fun o => by have := HB.out.size; simp; omega
  by_cases hlt : k < nx
  ·obtain ⟨b1, o1, rfl, hx1⟩ := row_limb (rowOf_below RA.out HB.out) (k := k) (by rw [HNX.out]; exact hlt)
   have hdx := dig_lt x k
   have HS1 := Lib.hid (fun (p q : Int) hp hq => HS.out k l p q HL.out hp hq)
   have HC1 := Lib.hid (HC.out (k + 1))
   obtain ⟨dx, hdxe⟩ : ∃ dx, dig x k = dx := ⟨_, rfl⟩
   rw [hdxe] at hx1 hdx HS1
   clear hdxe
   by_cases h2 : k < ny
   ·obtain ⟨b2, o2, rfl, hx2⟩ := row_limb (rowOf_below RB.out HB.out) (k := k) (by rw [HNY.out]; exact h2)
    have hdy := dig_lt y k
    obtain ⟨dy, hdye⟩ : ∃ dy, dig y k = dy := ⟨_, rfl⟩
    rw [hdye] at hx2 hdy HS1
    have HS2 := Lib.hid (HS1.out dx dy rfl rfl)
    clear hdye
    by_cases hneg : (dx : Int) - l - dy < 0
    ·have HD : Hid ((dx : Int) - l - dy + 1000000000 = digF (x - y) k) := by unfold Hid; rw [← HS2.out.1]; omega
     have HN : Hid ((1 : Int) = -comC 1 (-1) x y (k + 1)) := by unfold Hid; rw [← HS2.out.2]; omega
     go_wp2_with (at_builtin; refine append_int rfl _ _ 30 Tryz.underlying30 rfl w.heap.size _ _ _ ⟨wr.heap.size, 0, none⟩ rfl (HO.out.alloc _) rfl (cell_one_new _ _ _) hln (hcs _) ?_; intro v' w1 h1 hg1)
     go_roundw
     case rel => exact ⟨k + 1, 1, by omega, by go_num, rfl, by omega, by omega, HN, by rw [HD.out] at h1; rw [listF_succ]; exact h1, (HB.out.alloc HB.out.size _).grown hg1 (hcs _) fun g hg => (HO.out.lt g hg).1⟩
     case measure => simp [intOf]; omega
    ·have HD : Hid ((dx : Int) - l - dy = digF (x - y) k) := by unfold Hid; rw [← HS2.out.1]; omega
     have HN : Hid ((0 : Int) = -comC 1 (-1) x y (k + 1)) := by unfold Hid; rw [← HS2.out.2]; omega
     go_wp2_with (at_builtin; refine append_int rfl _ _ 30 Tryz.underlying30 rfl w.heap.size _ _ _ ⟨wr.heap.size, 0, none⟩ rfl (HO.out.alloc _) rfl (cell_one_new _ _ _) hln (hcs _) ?_; intro v' w1 h1 hg1)
     go_roundw
     case rel => exact ⟨k + 1, 0, by omega, by go_num, rfl, by omega, by omega, HN, by rw [HD.out] at h1; rw [listF_succ]; exact h1, (HB.out.alloc HB.out.size _).grown hg1 (hcs _) fun g hg => (HO.out.lt g hg).1⟩
     case measure => simp [intOf]; omega
   ·have HS2 := Lib.hid (HS1.out dx 0 rfl (by rw [(HY k).out (by omega)]; rfl))
    rw [Int.sub_zero] at HS2
    by_cases hneg : (dx : Int) - l < 0
    ·have HD : Hid ((dx : Int) - l + 1000000000 = digF (x - y) k) := by unfold Hid; rw [← HS2.out.1]; omega
     have HN : Hid ((1 : Int) = -comC 1 (-1) x y (k + 1)) := by unfold Hid; rw [← HS2.out.2]; omega
     go_wp2_with (at_builtin; refine append_int rfl _ _ 30 Tryz.underlying30 rfl w.heap.size _ _ _ ⟨wr.heap.size, 0, none⟩ rfl (HO.out.alloc _) rfl (cell_one_new _ _ _) hln (hcs _) ?_; intro v' w1 h1 hg1)
     go_roundw
     case rel => exact ⟨k + 1, 1, by omega, by go_num, rfl, by omega, by omega, HN, by rw [HD.out] at h1; rw [listF_succ]; exact h1, (HB.out.alloc HB.out.size _).grown hg1 (hcs _) fun g hg => (HO.out.lt g hg).1⟩
     case measure => simp [intOf]; omega
    ·have HD : Hid ((dx : Int) - l = digF (x - y) k) := by unfold Hid; rw [← HS2.out.1]; omega
     have HN : Hid ((0 : Int) = -comC 1 (-1) x y (k + 1)) := by unfold Hid; rw [← HS2.out.2]; omega
     go_wp2_with (at_builtin; refine append_int rfl _ _ 30 Tryz.underlying30 rfl w.heap.size _ _ _ ⟨wr.heap.size, 0, none⟩ rfl (HO.out.alloc _) rfl (cell_one_new _ _ _) hln (hcs _) ?_; intro v' w1 h1 hg1)
     go_roundw
     case rel => exact ⟨k + 1, 0, by omega, by go_num, rfl, by omega, by omega, HN, by rw [HD.out] at h1; rw [listF_succ]; exact h1, (HB.out.alloc HB.out.size _).grown hg1 (hcs _) fun g hg => (HO.out.lt g hg).1⟩
     case measure => simp [intOf]; omega
  ·obtain rfl : k = nx := by omega
   have HT1 := Lib.hid (spec_trim v (x - y) k w.heap.size wr HO.out HT.out)
   go_wp2_with fail
   refine HT1.out.mono ?_
   rintro e w2 ⟨v', rfl, o, rfl⟩
   have O := Lib.hid o
   clear o
   go_wp2
   go_ret
   exact ⟨_, rfl, O.out, HB.out⟩
end Go.Proofs.YtlepgkkpopjgoaaGreat
namespace Go.Proofs.YtlepgkkpopjgoaaGreat
set_option maxRecDepth 100000
set_option linter.unusedVariables false
set_option linter.unusedSimpArgs false
open Go.RowKit
theorem limI_max : limI 9223372036854775807 = [854775807, 223372036, 9] := by
 have h : nlen 9223372036854775807 = 2 + 1 := nlen_eq (by simp only [pw]; omega) (by simp only [pw]; omega)
 unfold limI
 rw [h]
 simp [listF, List.range_succ, dig, pw]
def natToIntV (zs : List Int) : Value := if okB zs then intR (natI zs) else .tuple #[.int .i64 0, .bool false]
theorem natToIntV_yes {x : Nat} (hx : x < pw 60) : natToIntV (limI x) = intR x := by unfold natToIntV; rw [okB_limI hx, natI_limI]; rfl
theorem natToIntV_no {zs : List Int} (h : okB zs = false) : natToIntV zs = .tuple #[.int .i64 0, .bool false] := by unfold natToIntV; rw [h]; rfl
theorem toInt_step {x j m : Nat} (h : m = x / pw (j + 1)) : m * 1000000000 + dig x j = x / pw j := by rw [h, ← div_step]
set_option maxHeartbeats 800000 in
theorem spec_natToInt (va : Value) (zs : List Int) (w : World) (ha : RowOf iV w va zs) :
  Calls Tryz.prog 176 #[va] w fun e w' => e = .returned (natToIntV zs) ∧ Below w.heap.size w w' := by
 have K0 := Lib.hid (spec_natOk va zs w ha)
 cases e0 : okB zs with
 | false =>
  have HE := Lib.hid (natToIntV_no (zs := zs) e0)
  obtain ⟨aa, ca, rfl, h1, h2, h3⟩ := ha
  rw [e0] at K0
  clear e0 h1 h2 h3
  go_enter Tryz.func176, Tryz.ntmps176
  go_wp2_with fail
  refine K0.out.mono ?_
  rintro e w1 ⟨rfl, rfl⟩
  go_wp2
  go_ret2
  exact ⟨by rw [HE.out]; rfl, Below.refl _ _⟩
 | true =>
  obtain ⟨x, rfl, hx⟩ := okB_cases e0
  have HE := Lib.hid (natToIntV_yes hx)
  have H60 := Lib.hid ((nlen_le_iff _ _).2 hx)
  rw [e0] at K0
  have RA := Lib.hid ha
  obtain ⟨aa, ca, rfl, h1, h2, h3⟩ := ha
  clear h1 h2 h3 e0 hx
  rw [limI_length] at RA K0 ⊢
  have hlit := World.ownsRow_lit (base := w.heap.size) (e := 3) (size := 1) w #[.int .i64 854775807, .int .i64 223372036, .int .i64 9] 3 (Nat.le_refl _) (by unfold maxLen; omega) rfl
  have HL : Hid (RowOf iV (w.alloc (.cells #[.int .i64 854775807, .int .i64 223372036, .int .i64 9] 3)) (.slice (some ⟨w.heap.size, 0, none⟩) 3 3) (limI 9223372036854775807)) := by
   unfold Hid
   rw [limI_max]
   exact ownsRow_row (xs := [854775807, 223372036, 9]) (f := iV) hlit
  have HBl := Lib.hid ((Below.refl w.heap.size w).alloc (Nat.le_refl _) (.cells #[.int .i64 854775807, .int .i64 223372036, .int .i64 9] 3))
  clear hlit
  have HC := Lib.hid (spec_cmp _ _ x 9223372036854775807 _ (rowOf_below RA.out HBl.out) HL.out (by have := H60.out; omega) (by have : nlen 9223372036854775807 ≤ 3 := (nlen_le_iff _ _).2 (by simp only [pw]; omega); omega))
  by_cases hle : x ≤ 9223372036854775807
  ·have HR := Lib.hid (intR_yes hle)
   have hc0 : cmpN x 9223372036854775807 ≤ 0 := by unfold cmpN; split <;> (try split) <;> omega
   obtain ⟨c, hc⟩ : ∃ c, cmpN x 9223372036854775807 = c := ⟨_, rfl⟩
   rw [hc] at hc0 HC
   clear hc
   have HT := Lib.hid (fun j m h => toInt_step (x := x) (j := j) (m := m) h)
   have HDV := Lib.hid (fun j => Nat.div_le_self x (pw j))
   have HLT := Lib.hid (lt_pw_nlen x)
   obtain ⟨n, hn⟩ : ∃ n, nlen x = n := ⟨_, rfl⟩
   rw [hn] at RA K0 H60 HLT HC ⊢
   have hn60 := H60.out
   have HN := Lib.hid hn
   clear hn
   have HX := Lib.hid hle
   have hxb : (x : Int) ≤ 9223372036854775807 := by omega
   go_enter Tryz.func176, Tryz.ntmps176
   go_wp2_with fail
   refine K0.out.mono ?_
   rintro e w1 ⟨rfl, rfl⟩
   go_wp2_with fail
   refine HC.out.mono ?_
   rintro e w2 ⟨rfl, hb2⟩
   have HB2 := Lib.hid (HBl.out.trans (hb2.mono (by simp)))
   clear hb2
   go_wp2
   go_loop [4, 5] (fun mv iv => (∃ j m : Nat, j < n ∧ iv = .int .i64 (j : Int) ∧ mv = .int .i64 m ∧ Hid (m = x / pw (j + 1))) ∨ (iv = .int .i64 (-1) ∧ mv = .int .i64 x)) (fun _ iv => (intOf iv + 1).toNat)
   case atStart =>
    by_cases hl : 0 < n
    ·exact .inl ⟨n - 1, 0, by omega, by go_num, rfl, by unfold Hid; rw [show n - 1 + 1 = n by omega, Nat.div_eq_of_lt HLT.out]⟩
    ·obtain rfl : n = 0 := by omega
     exact .inr ⟨rfl, by have h := HLT.out; rw [pw_zero] at h; rw [show x = 0 by omega]; rfl⟩
   case round =>
    rcases hrel with ⟨j, m, hj, rfl, rfl, HM⟩ | ⟨rfl, rfl⟩
    ·obtain ⟨b1, o1, rfl, hx1⟩ := row_limb (rowOf_below RA.out HB2.out) (k := j) (by rw [HN.out]; exact hj)
     have hd := dig_lt x j
     have HS := Lib.hid (HT.out j m HM.out)
     have HV := Lib.hid (HDV.out j)
     obtain ⟨d, hde⟩ : ∃ d, dig x j = d := ⟨_, rfl⟩
     rw [hde] at hx1 hd HS
     clear hde
     have hbd : (m : Int) * 1000000000 + (d : Int) ≤ 9223372036854775807 := by have h1 := HS.out; have h2 := HV.out; have h3 := HX.out; omega
     go_wp2
     go_round
     case rel =>
      by_cases hj0 : 0 < j
      ·exact .inl ⟨j - 1, m * 1000000000 + d, by omega, by go_num, by go_num, by unfold Hid; rw [show j - 1 + 1 = j by omega]; exact HS.out⟩
      ·refine .inr ⟨by go_num, ?_⟩
       have h := HS.out
       rw [show j = 0 by omega, pw_zero, Nat.div_one] at h
       rw [← h]; go_num
     case measure => simp [intOf]
    ·go_wp2
     go_ret2
     exact ⟨by rw [HE.out, HR.out]; rfl, HB2.out⟩
  ·have HR := Lib.hid (intR_no hle)
   have hc0 : 0 < cmpN x 9223372036854775807 := by rw [cmpN_gt (by omega)]; omega
   obtain ⟨c, hc⟩ : ∃ c, cmpN x 9223372036854775807 = c := ⟨_, rfl⟩
   rw [hc] at hc0 HC
   clear hc hle
   go_enter Tryz.func176, Tryz.ntmps176
   go_wp2_with fail
   refine K0.out.mono ?_
   rintro e w1 ⟨rfl, rfl⟩
   go_wp2_with fail
   refine HC.out.mono ?_
   rintro e w2 ⟨rfl, hb2⟩
   have HB2 := Lib.hid (HBl.out.trans (hb2.mono (by simp)))
   clear hb2
   go_wp2
   go_ret2
   exact ⟨by rw [HE.out, HR.out]; rfl, HB2.out⟩
end Go.Proofs.YtlepgkkpopjgoaaGreat
