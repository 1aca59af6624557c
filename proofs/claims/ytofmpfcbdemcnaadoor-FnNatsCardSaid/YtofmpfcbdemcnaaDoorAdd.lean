/- Sums and differences of multiples: what combine, trimmed and limited of the program return. -/
import Derived.Test.YtofmpfcbdemcnaaDoorNatOf
import Derived.Test.YtofmpfcbdemcnaaDoorNum2
namespace Go.Proofs.YtofmpfcbdemcnaaDoor
open Go.RowKit

def digF (x : Nat) : Nat → Int := fun i => (dig x i : Int)
theorem limI_eq (x : Nat) : limI x = listF (nlen x) (digF x) := rfl
theorem limI_take {T n : Nat} (h : nlen T ≤ n) : (listF n (digF T)).take (nlen T) = limI T := listF_take h

/-- a limb of a row that came in -/
theorem row_limb {w : World} {a : Option Addr} {n c x k : Nat} (h : RowOf iV w (.slice a n c) (limI x)) (hk : k < nlen x) : ∃ b o, a = some ⟨b, o, none⟩ ∧ w.cell? ⟨b, o + k, none⟩ = some (.int .i64 (dig x k)) := by
  obtain ⟨_, _, e, _, _, hr⟩ := h
  injection e with e1 e2 e3
  subst e1 e3
  obtain ⟨b, o, e, hx⟩ := hr k (by rw [limI_length]; exact hk)
  rw [limI_get] at hx
  exact ⟨b, o, e, hx⟩

set_option maxHeartbeats 400000 in
theorem at_dig (v : Value) (x i : Nat) (w : World) (h : RowOf iV w v (limI x)) (hi : i ≤ 1099511627776) :
    Calls Tryd.prog 88 #[v, .int .i64 i] w fun e w' => e = .returned (.int .i64 (dig x i)) ∧ w' = w := by
  obtain ⟨a, cap, rfl, hc, hm, hr⟩ := h
  have R := Lib.hid hr
  clear hr
  by_cases hlt : i < nlen x
  · obtain ⟨b, o, rfl, hx⟩ := R.out i (by rw [limI_length]; exact hlt)
    rw [limI_get] at hx
    unfold iV at hx
    rw [limI_length]
    go_enter Tryd.func88, Tryd.ntmps88
    go_wp2
    go_ret
    exact ⟨rfl, rfl⟩
  · rw [limI_length, dig_past (by omega)]
    go_enter Tryd.func88, Tryd.ntmps88
    go_wp2
    go_ret
    exact ⟨rfl, rfl⟩

theorem trim_more {T k : Nat} (h : nlen T ≤ k) (hk : 0 < k) (h0 : dig T (k - 1) = 0) : nlen T ≤ k - 1 := by
  rw [nlen_le_iff] at h ⊢
  have e : k = (k - 1) + 1 := by omega
  rw [e] at h
  exact dig_top_zero h h0
theorem trim_done {T k : Nat} (h : nlen T ≤ k) (hk : 0 < k) (h0 : dig T (k - 1) ≠ 0) : k = nlen T := by
  rw [nlen_le_iff] at h
  have e : k = (k - 1) + 1 := by omega
  rw [e] at h
  have := nlen_of_top h h0
  omega

set_option maxHeartbeats 400000 in
theorem impl_trimmed (v : Value) (T n B : Nat) (w : World) (h : OwnI w B v (listF n (digF T))) (hT : nlen T ≤ n) :
    Calls Tryd.prog 40 #[v] w fun e w' => ∃ v', e = .returned v' ∧ OwnI w B v' (limI T) ∧ (v' = v ∨ v'.ownBlock = v.ownBlock) ∧ w' = w := by
  rcases h.form with ⟨rfl, hl⟩ | ⟨g, c, hv, hB, hg⟩
  · have hn : n = 0 := by have := congrArg List.length hl; rw [listF_length] at this; simpa using this
    have hT0 : limI T = [] := by
      have : nlen T = 0 := by omega
      unfold limI; rw [this]; rfl
    have HT := Lib.hid hT0
    clear hT0 hl hT h hn
    go_enter Tryd.func40, Tryd.ntmps40
    go_wp2
    go_loop [0] (fun sv => sv = .slice none 0 0) (fun _ => 0)
    case atStart => rfl
    case round =>
      subst hrel
      go_wp2
      go_ret
      exact ⟨_, rfl, by rw [HT.out]; exact OwnI.nil _ _, .inl rfl, rfl⟩
  · rw [listF_length] at hv
    subst hv
    have hcm := h.cap_le
    unfold maxLen at hcm
    have H := Lib.hid h
    clear h hg
    go_enter Tryd.func40, Tryd.ntmps40
    go_wp2
    go_loop [0] (fun sv => ∃ k : Nat, k ≤ n ∧ nlen T ≤ k ∧ sv = .slice (some ⟨g, 0, none⟩) k c) (fun sv => match sv with | .slice _ k _ => k | _ => 0)
    case atStart => exact ⟨n, Nat.le_refl _, hT, rfl⟩
    case round =>
      obtain ⟨k, hk, hTk, rfl⟩ := hrel
      by_cases hp : 0 < k
      · have hcl := H.out.cell (k - 1) (by rw [listF_length]; omega)
        rw [listF_get] at hcl
        unfold digF at hcl
        have e1 : ((k : Int) - 1).toNat = k - 1 := by omega
        have HM := Lib.hid (trim_more hTk hp)
        have HD := Lib.hid (trim_done hTk hp)
        obtain ⟨d, hd⟩ : ∃ d, dig T (k - 1) = d := ⟨_, rfl⟩
        rw [hd] at hcl HM HD
        clear hd
        by_cases h0 : d = 0
        · have HM2 := Lib.hid (HM.out h0)
          subst h0
          go_wp2
          go_round
          case rel => exact ⟨k - 1, by omega, HM2.out, by go_num⟩
          case measure => simp; omega
        · have HD2 := Lib.hid (HD.out h0)
          have hb : ((d : Int) == 0) = false := by simp; exact h0
          clear h0
          go_wp2
          go_ret
          refine ⟨_, rfl, ?_, .inr rfl, rfl⟩
          have := H.out.take hk
          rw [HD2.out, limI_take (by have := HD2.out; omega)] at this
          have e := HD2.out
          rw [← e] at this
          exact this
      · obtain rfl : k = 0 := by omega
        have HT : Hid (limI T = []) := by
          unfold Hid
          have : nlen T = 0 := by omega
          unfold limI; rw [this]; rfl
        go_wp2
        go_ret
        refine ⟨_, rfl, ?_, .inr rfl, rfl⟩
        have := H.out.take (Nat.zero_le _)
        rw [List.take_zero] at this
        rw [HT.out]
        exact this

/-- the limbs of a result, none where there would be too many -/
def capL (T : Nat) : List Int := if T < pw 60 then limI T else []
theorem capL_yes {T : Nat} (h : T < pw 60) : capL T = limI T := if_pos h
theorem capL_no {T : Nat} (h : ¬ T < pw 60) : capL T = [] := if_neg h
theorem capL_len (T : Nat) : (capL T).length ≤ 60 := by
  unfold capL
  split
  · rw [limI_length, nlen_le_iff]; assumption
  · simp

set_option maxHeartbeats 400000 in
theorem impl_limited (v : Value) (T B : Nat) (w : World) (h : OwnI w B v (limI T)) :
    Calls Tryd.prog 45 #[v] w fun e w' => ∃ v', e = .returned v' ∧ OwnI w B v' (capL T) ∧ w' = w := by
  have hn := nlen_le_iff 60 T
  have H := Lib.hid h
  have hf := h.form
  by_cases hT : nlen T ≤ 60
  · have HT := Lib.hid (hn.1 hT)
    rcases hf with ⟨rfl, hl⟩ | ⟨g, c, rfl, _, _⟩
    · clear h hn hl
      go_enter Tryd.func45, Tryd.ntmps45
      go_wp2
      go_ret
      exact ⟨_, rfl, by rw [capL_yes HT.out]; exact H.out, rfl⟩
    · clear h hn
      rw [limI_length] at H ⊢
      go_enter Tryd.func45, Tryd.ntmps45
      go_wp2
      go_ret
      exact ⟨_, rfl, by rw [capL_yes HT.out]; exact H.out, rfl⟩
  · have HT := Lib.hid (show ¬ T < pw 60 by omega)
    rcases hf with ⟨rfl, hl⟩ | ⟨g, c, rfl, _, _⟩
    · have := congrArg List.length hl
      rw [limI_length] at this
      simp at this
      omega
    · clear h hn
      rw [limI_length] at H ⊢
      go_enter Tryd.func45, Tryd.ntmps45
      go_wp2
      go_ret
      exact ⟨_, rfl, by rw [capL_no HT.out]; exact OwnI.nil _ _, rfl⟩


theorem tmod_neg {t : Int} (h : t < 0) : (t % 1000000000 = 0 ∧ t.tmod 1000000000 = 0 ∧ t.tdiv 1000000000 = t / 1000000000) ∨ (0 < t % 1000000000 ∧ t.tmod 1000000000 = t % 1000000000 - 1000000000 ∧ t.tdiv 1000000000 = t / 1000000000 + 1) := by
  obtain ⟨n, hn⟩ := Int.eq_ofNat_of_zero_le (show 0 ≤ -t by omega)
  obtain rfl : t = -(n : Int) := by omega
  have a : (-(n : Int)).tmod 1000000000 = -((n % 1000000000 : Nat) : Int) := by rw [Int.neg_tmod]; rfl
  have b : (-(n : Int)).tdiv 1000000000 = -((n / 1000000000 : Nat) : Int) := by rw [Int.neg_tdiv]; rfl
  rw [a, b]
  omega
theorem mul_small {m : Int} {x i : Nat} (h : -1000000000 ≤ m ∧ m ≤ 1000000000) : -1000000000000000000 ≤ m * (dig x i : Int) ∧ m * (dig x i : Int) ≤ 1000000000000000000 := by
  have h2 := dig_lt x i
  have a : m * (dig x i : Int) ≤ 1000000000 * (dig x i : Int) := Int.mul_le_mul_of_nonneg_right h.2 (by omega)
  have b : -1000000000 * (dig x i : Int) ≤ m * (dig x i : Int) := Int.mul_le_mul_of_nonneg_right h.1 (by omega)
  omega
/-- the limb and the carry of the next place -/
theorem com_step {m n : Int} {x y T i : Nat} (hT : (T : Int) = m * (x : Int) + n * (y : Int)) {c p q t : Int} (hc : c = comC m n x y i) (hp : m * (dig x i : Int) = p) (hq : n * (dig y i : Int) = q) (ht : c + (p + q) = t) : t % 1000000000 = (dig T i : Int) ∧ t / 1000000000 = comC m n x y (i + 1) := by
  have e : comC m n x y i + m * (dig x i : Int) + n * (dig y i : Int) = t := by rw [← hc, hp, hq]; omega
  exact ⟨by rw [com_dig m n x y i T hT, e], by rw [comC_succ, e]⟩

set_option maxHeartbeats 2000000 in
theorem impl_combine (va vb : Value) (x y T : Nat) (m n : Int) (w : World) (ha : RowOf iV w va (limI x)) (hb : RowOf iV w vb (limI y)) (hm : -1000000000 ≤ m ∧ m ≤ 1000000000) (hn : -1000000000 ≤ n ∧ n ≤ 1000000000)
    (hT : (T : Int) = m * (x : Int) + n * (y : Int)) (hlt : nlen T ≤ max (nlen x) (nlen y) + 1) (hx : nlen x ≤ 1000) (hy : nlen y ≤ 1000) :
    Calls Tryd.prog 70 #[va, .int .i64 m, vb, .int .i64 n] w fun e w' => ∃ v, e = .returned v ∧ OwnI w' w.heap.size v (limI T) ∧ Below w.heap.size w w' := by
  have RA := Lib.hid ha
  have RB := Lib.hid hb
  obtain ⟨aa, ca, rfl, h1, h2, h3⟩ := ha
  obtain ⟨ab, cb, rfl, h4, h5, h6⟩ := hb
  clear h1 h2 h3 h4 h5 h6
  rw [limI_length] at RA RB ⊢
  rw [limI_length]
  have HT := Lib.hid hT
  have hC := fun i => comC_bound m n x y i 2000000000 (by omega)
  have HC := Lib.hid hC
  have hP := fun i => mul_small (x := x) (i := i) hm
  have hQ := fun i => mul_small (x := y) (i := i) hn
  have HP := Lib.hid hP
  have HQ := Lib.hid hQ
  clear hT hm hn hC hP hQ
  obtain ⟨nx, hnx⟩ : ∃ nx, nlen x = nx := ⟨_, rfl⟩
  obtain ⟨ny, hny⟩ : ∃ ny, nlen y = ny := ⟨_, rfl⟩
  rw [hnx, hny] at hlt
  rw [hnx] at hx RA ⊢
  rw [hny] at hy RB ⊢
  clear hnx hny
  obtain ⟨N, hN⟩ : ∃ N, (nx < ny ∧ N = ny) ∨ (¬ nx < ny ∧ N = nx) := by
    by_cases h : nx < ny
    · exact ⟨_, .inl ⟨h, rfl⟩⟩
    · exact ⟨_, .inr ⟨h, rfl⟩⟩
  have HL : Hid (nlen T ≤ N + 1) := by unfold Hid; omega
  clear hlt
  rcases hN with ⟨hc, hN⟩ | ⟨hc, hN⟩
  all_goals
    subst hN
    have hmk := make_limbs (N + 1) (by omega)
    rw [show ((N + 1 : Nat) : Int) = (N : Int) + 1 by simp] at hmk
    have HO := Lib.hid (zeroObj_own w w.heap.size (N + 1) (Nat.le_refl _) (by omega))
    have HB := Lib.hid ((Below.refl w.heap.size w).alloc (Nat.le_refl _) (zeroObj (N + 1)))
    go_enter Tryd.func70, Tryd.ntmps70
    go_wp2
    clear hmk
    generalize w.alloc (zeroObj (N + 1)) = W1 at HO HB ⊢
    obtain ⟨g, hg⟩ : ∃ g, w.heap.size = g := ⟨_, rfl⟩
    rw [hg] at HO HB ⊢
    have HG := Lib.hid hg
    clear hg
    go_loopw [10, 21] (fun cv iv wr => ∃ (k : Nat) (c : Int), k ≤ N + 1 ∧ iv = .int .i64 k ∧ cv = .int .i64 c ∧ Hid (c = comC m n x y k) ∧ Hid (OwnI wr g (.slice (some ⟨g, 0, none⟩) (N + 1) (N + 1)) (fillU (N + 1) k (digF T) (fun _ => 0))) ∧ Hid (Below g w wr)) (fun _ iv _ => N + 1 - (intOf iv).toNat)
    case atStart => exact ⟨0, 0, Nat.zero_le _, rfl, rfl, (comC_zero m n x y).symm, by rw [fillU_zero]; exact HO, HB⟩
    case round =>
      obtain ⟨k, c, hk, rfl, rfl, HCk, HK, HBk⟩ := hrel
      by_cases hlt : k < N + 1
      · have hcb : -2000000000 ≤ c ∧ c ≤ 2000000000 := by rw [HCk.out]; exact HC.out k
        obtain ⟨p, hp⟩ : ∃ p, m * (dig x k : Int) = p := ⟨_, rfl⟩
        obtain ⟨q, hq⟩ : ∃ q, n * (dig y k : Int) = q := ⟨_, rfl⟩
        obtain ⟨t, ht⟩ : ∃ t, c + (p + q) = t := ⟨_, rfl⟩
        have hpb := HP.out k
        have hqb := HQ.out k
        rw [hp] at hpb
        rw [hq] at hqb
        obtain ⟨hpb1, hpb2⟩ := hpb
        obtain ⟨hqb1, hqb2⟩ := hqb
        obtain ⟨hcb1, hcb2⟩ := hcb
        have HS := Lib.hid (com_step HT.out HCk.out hp hq ht)
        have RA1 := Lib.hid (rowOf_below RA.out (by rw [HG.out]; exact HBk.out))
        have RB1 := Lib.hid (rowOf_below RB.out (by rw [HG.out]; exact HBk.out))
        obtain ⟨dx, hdx⟩ : ∃ dx, dig x k = dx := ⟨_, rfl⟩
        obtain ⟨dy, hdy⟩ : ∃ dy, dig y k = dy := ⟨_, rfl⟩
        have HDX := Lib.hid hdx
        have HDY := Lib.hid hdy
        rw [hdx] at hp
        rw [hdy] at hq
        have hcl := HK.out.cell k (by rw [fillU_length]; exact hlt)
        have hfz := HK.out.frozen k
        clear hdx hdy
        go_wp2_with fail
        refine (at_dig _ x k _ RA1.out (by omega)).mono ?_
        rintro e w1 ⟨rfl, rfl⟩
        rw [HDX.out]
        go_wp2_with fail
        refine (at_dig _ y k _ RB1.out (by omega)).mono ?_
        rintro e w1 ⟨rfl, rfl⟩
        rw [HDY.out]
        have HRel := Lib.hid (show ∀ W' : World, OwnI W' g (.slice (some ⟨g, 0, none⟩) (N + 1) (N + 1)) ((fillU (N + 1) k (digF T) (fun _ => 0)).set k (t % 1000000000)) → OwnI W' g (.slice (some ⟨g, 0, none⟩) (N + 1) (N + 1)) (fillU (N + 1) (k + 1) (digF T) (fun _ => 0)) from fun W' h => by
          rw [HS.out.1] at h
          have e := fillU_set (F := digF T) (G := fun _ => 0) hlt
          unfold digF at e h ⊢
          rw [e] at h
          exact h)
        by_cases h0 : 0 ≤ t
        · have HO1 := Lib.hid (HRel.out _ (HK.out.set k (t % 1000000000)))
          have HB1 := Lib.hid (HBk.out.setCell (p := ⟨g, k, none⟩) (Nat.le_refl _) (.int .i64 (t % 1000000000)))
          go_wp2
          go_roundw
          case rel => exact ⟨k + 1, t / 1000000000, by omega, by go_num, rfl, HS.out.2, HO1, HB1⟩
          case measure => simp [intOf]; omega
        · rcases tmod_neg (show t < 0 by omega) with ⟨z0, z1, z2⟩ | ⟨z0, z1, z2⟩
          · have HO1 := Lib.hid (HRel.out _ (HK.out.set k (t % 1000000000)))
            rw [z0] at HO1
            have HB1 := Lib.hid (HBk.out.setCell (p := ⟨g, k, none⟩) (Nat.le_refl _) (.int .i64 0))
            have HZ := Lib.hid z0
            clear z0
            go_wp2
            go_roundw
            case rel => exact ⟨k + 1, t / 1000000000, by omega, by go_num, rfl, HS.out.2, HO1, HB1⟩
            case measure => simp [intOf]; omega
          · obtain ⟨r, hr⟩ : ∃ r, t % 1000000000 = r := ⟨_, rfl⟩
            rw [hr] at z0 z1 HRel
            have hr1 : r < 1000000000 := by omega
            have HO1 := Lib.hid (HRel.out _ (by have h := (HK.out.set k (r - 1000000000)).set k r; rw [List.set_set] at h; exact h))
            have HB1 := Lib.hid ((HBk.out.setCell (p := ⟨g, k, none⟩) (Nat.le_refl _) (.int .i64 (r - 1000000000))).setCell (p := ⟨g, k, none⟩) (Nat.le_refl _) (.int .i64 r))
            have hadd : r - 1000000000 + 1000000000 = r := by omega
            have hsub : t / 1000000000 + 1 - 1 = t / 1000000000 := by omega
            clear hr
            go_wp2
            go_roundw
            case rel => exact ⟨k + 1, t / 1000000000, by omega, by go_num, rfl, HS.out.2, HO1, HB1⟩
            case measure => simp [intOf]; omega
      · obtain rfl : k = N + 1 := by omega
        have HO1 := HK.out
        rw [fillU_full] at HO1
        have HT1 := Lib.hid (impl_trimmed _ T (N + 1) g wr HO1 HL.out)
        clear HO1
        go_wp2_with fail
        refine HT1.out.mono ?_
        rintro e w2 ⟨v', rfl, o, _, rfl⟩
        have O := Lib.hid o
        clear o
        go_wp2
        go_ret
        exact ⟨_, rfl, by rw [HG.out]; exact O.out, by rw [HG.out]; exact HBk.out⟩

theorem impl_plus (va vb : Value) (x y : Nat) (w : World) (ha : RowOf iV w va (limI x)) (hb : RowOf iV w vb (limI y)) (hx : nlen x ≤ 1000) (hy : nlen y ≤ 1000) :
    Calls Tryd.prog 44 #[va, vb] w fun e w' => ∃ v, e = .returned v ∧ OwnI w' w.heap.size v (limI (x + y)) ∧ Below w.heap.size w w' := by
  have H := Lib.hid (impl_combine va vb x y (x + y) 1 1 w ha hb (by omega) (by omega) (by omega) (by
    rw [nlen_le_iff, pw_succ]
    have h1 := Nat.lt_of_lt_of_le (lt_pw_nlen x) (pw_mono (Nat.le_max_left (nlen x) (nlen y)))
    have h2 := Nat.lt_of_lt_of_le (lt_pw_nlen y) (pw_mono (Nat.le_max_right (nlen x) (nlen y)))
    omega) hx hy)
  obtain ⟨aa, ca, rfl, h1, h2, h3⟩ := ha
  obtain ⟨ab, cb, rfl, h4, h5, h6⟩ := hb
  clear h1 h2 h3 h4 h5 h6
  go_enter Tryd.func44, Tryd.ntmps44
  go_wp2_with fail
  refine H.out.mono ?_
  rintro e w1 ⟨v, rfl, o, b⟩
  have O := Lib.hid o
  clear o
  go_wp2
  go_ret
  exact ⟨_, rfl, O.out, b⟩
end Go.Proofs.YtofmpfcbdemcnaaDoor
