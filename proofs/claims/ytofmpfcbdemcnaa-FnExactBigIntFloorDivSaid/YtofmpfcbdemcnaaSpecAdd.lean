/- Sums, differences and cutting of zeros as the model reckons them; the exact law of NatAdd. -/
import Derived.Test.YtofmpfcbdemcnaaAdd
import Derived.Test.YtofmpfcbdemcnaaNum4
namespace Go.Proofs.Ytofmpfcbdemcnaa
open Go.RowKit

set_option maxHeartbeats 400000 in
theorem spec_trim (v : Value) (T n B : Nat) (w : World) (h : OwnI w B v (listF n (digF T))) (hT : nlen T ≤ n) :
    Calls Try.prog 65 #[v] w fun e w' => ∃ v', e = .returned v' ∧ OwnI w B v' (limI T) ∧ w' = w := by
  rcases h.form with ⟨rfl, hl⟩ | ⟨g, c, hv, hB, hg⟩
  · have hn : n = 0 := by have := congrArg List.length hl; rw [listF_length] at this; simpa using this
    have hT0 : limI T = [] := by
      have : nlen T = 0 := by omega
      unfold limI; rw [this]; rfl
    have HT := Lib.hid hT0
    clear hT0 hl hT h hn
    go_enter Try.func65, Try.ntmps65
    go_wp2
    go_loop [3] (fun sv => sv = .int .i64 0) (fun _ => 0)
    case atStart => rfl
    case round =>
      subst hrel
      go_wp2
      go_ret
      exact ⟨_, rfl, by rw [HT.out]; exact OwnI.nil _ _, rfl⟩
  · rw [listF_length] at hv
    subst hv
    have hcm := h.cap_le
    unfold maxLen at hcm
    have H := Lib.hid h
    clear h hg
    go_enter Try.func65, Try.ntmps65
    go_wp2
    go_loop [3] (fun sv => ∃ k : Nat, k ≤ n ∧ nlen T ≤ k ∧ sv = .int .i64 k) (fun sv => (intOf sv).toNat)
    case atStart => exact ⟨n, Nat.le_refl _, hT, rfl⟩
    case round =>
      obtain ⟨k, hk, hTk, rfl⟩ := hrel
      by_cases hp : 0 < k
      · have hcl := H.out.cell (k - 1) (by rw [listF_length]; omega)
        rw [listF_get] at hcl
        unfold digF at hcl
        have e1 : ((k : Int) - 1).toNat = k - 1 := by omega
        have HM := Lib.hid (trim_more hTk hp)
        have HD := Lib.hid (trim_done hTk hp)
        obtain ⟨d, hd⟩ : ∃ d, dig T (k - 1) = d := ⟨_, rfl⟩
        rw [hd] at hcl HM HD
        clear hd
        by_cases h0 : d = 0
        · have HM2 := Lib.hid (HM.out h0)
          subst h0
          go_wp2
          go_round
          case rel => exact ⟨k - 1, by omega, HM2.out, by go_num⟩
          case measure => simp [intOf]; omega
        · have HD2 := Lib.hid (HD.out h0)
          have hb : ((d : Int) == 0) = false := by simp; exact h0
          clear h0
          go_wp2
          go_ret
          refine ⟨_, rfl, ?_, rfl⟩
          have := H.out.take hk
          rw [HD2.out, limI_take (by have := HD2.out; omega)] at this
          have e := HD2.out
          rw [← e] at this
          exact this
      · obtain rfl : k = 0 := by omega
        have HT : Hid (limI T = []) := by
          unfold Hid
          have : nlen T = 0 := by omega
          unfold limI; rw [this]; rfl
        go_wp2
        go_ret
        refine ⟨_, rfl, ?_, rfl⟩
        have := H.out.take (Nat.zero_le _)
        rw [List.take_zero] at this
        rw [HT.out]
        exact this

set_option maxHeartbeats 400000 in
theorem spec_cap (v : Value) (T n B : Nat) (w : World) (h : OwnI w B v (listF n (digF T))) (hn : nlen T ≤ n) :
    Calls Try.prog 61 #[v] w fun e w' => ∃ v', e = .returned v' ∧ OwnI w B v' (capL T) ∧ w' = w := by
  have H1 := Lib.hid (spec_trim v T n B w h hn)
  clear h
  go_enter Try.func61, Try.ntmps61
  go_wp2_with fail
  refine H1.out.mono ?_
  rintro e w1 ⟨v', rfl, o, rfl⟩
  have H := Lib.hid o
  have hf := o.form
  have hi := nlen_le_iff 60 T
  clear o
  by_cases hT : nlen T ≤ 60
  · have HT := Lib.hid (hi.1 hT)
    rcases hf with ⟨rfl, hl⟩ | ⟨g, c, rfl, _, _⟩
    · clear hl hi
      go_wp2
      go_ret
      exact ⟨_, rfl, by rw [capL_yes HT.out]; exact H.out, rfl⟩
    · clear hi
      rw [limI_length] at H ⊢
      go_wp2
      go_ret
      exact ⟨_, rfl, by rw [capL_yes HT.out]; exact H.out, rfl⟩
  · have HT := Lib.hid (show ¬ T < pw 60 by omega)
    rcases hf with ⟨rfl, hl⟩ | ⟨g, c, rfl, _, _⟩
    · have := congrArg List.length hl
      rw [limI_length] at this
      simp at this
      omega
    · clear hi
      rw [limI_length] at H ⊢
      go_wp2
      go_ret
      exact ⟨_, rfl, by rw [capL_no HT.out]; exact OwnI.nil _ _, rfl⟩

theorem sum_step {x y i : Nat} {c p q : Int} (hc : c = comC 1 1 x y i) (hp : p = (dig x i : Int)) (hq : q = (dig y i : Int)) : (c + p + q) % 1000000000 = digF (x + y) i ∧ (c + p + q) / 1000000000 = comC 1 1 x y (i + 1) := by
  have h := com_step (m := 1) (n := 1) (x := x) (y := y) (T := x + y) (i := i) (by omega) hc (p := p) (q := q) (t := c + p + q) (by rw [hp]; omega) (by rw [hq]; omega) (by omega)
  exact h
set_option maxHeartbeats 1000000 in
theorem spec_add (va vb : Value) (x y : Nat) (w : World) (ha : RowOf iV w va (limI x)) (hb : RowOf iV w vb (limI y)) (hx : nlen x ≤ 1000) (hy : nlen y ≤ 1000) :
    Calls Try.prog 55 #[va, vb] w fun e w' => ∃ v, e = .returned v ∧ ∃ n, OwnI w' w.heap.size v (listF n (digF (x + y))) ∧ nlen (x + y) ≤ n ∧ Below w.heap.size w w' := by
  have RA := Lib.hid ha
  have RB := Lib.hid hb
  obtain ⟨aa, ca, rfl, h1, h2, h3⟩ := ha
  obtain ⟨ab, cb, rfl, h4, h5, h6⟩ := hb
  clear h1 h2 h3 h4 h5 h6
  rw [limI_length] at RA RB ⊢
  rw [limI_length]
  have HX := fun k => Lib.hid (fun h : nlen x ≤ k => dig_past h)
  have HY := fun k => Lib.hid (fun h : nlen y ≤ k => dig_past h)
  have HZ := Lib.hid (fun (k : Nat) (h1 : nlen x < k) (h2 : nlen y < k) => comC_last h1 h2)
  have HE := Lib.hid (fun (k : Nat) (h1 : nlen x ≤ k) (h2 : nlen y ≤ k) (h3 : comC 1 1 x y k = 0) => comC_done h1 h2 h3)
  have HN := Lib.hid (fun k => comC_bound 1 1 x y k 2 (by omega))
  have HP := Lib.hid (fun k => comC_nonneg (x := x) (y := y) (i := k))
  obtain ⟨nx, hnx⟩ : ∃ nx, nlen x = nx := ⟨_, rfl⟩
  obtain ⟨ny, hny⟩ : ∃ ny, nlen y = ny := ⟨_, rfl⟩
  rw [hnx] at hx RA HX HZ HE ⊢
  rw [hny] at hy RB HY HZ HE ⊢
  have HNX := Lib.hid hnx
  have HNY := Lib.hid hny
  clear hnx hny
  go_enter Try.func55, Try.ntmps55
  go_wp2
  go_loopw [5, 6, 7] (fun ov cv iv wr => ∃ (k : Nat) (c : Int), iv = .int .i64 k ∧ cv = .int .i64 c ∧ 0 ≤ c ∧ c ≤ 2 ∧ Hid (c = comC 1 1 x y k) ∧ k ≤ max nx ny + 1 ∧ Hid (OwnI wr w.heap.size ov (listF k (digF (x + y)))) ∧ Hid (Below w.heap.size w wr)) (fun _ _ iv _ => max nx ny + 2 - (intOf iv).toNat)
  case atStart => exact ⟨0, 0, rfl, rfl, by omega, by omega, (comC_zero 1 1 x y).symm, by omega, OwnI.lit0 w, (Below.refl _ w).alloc (Nat.le_refl _) _⟩
  case round =>
    obtain ⟨k, c, rfl, rfl, hc0, hc2, HC, hkm, HO, HB⟩ := hrel
    obtain ⟨v, rfl⟩ : ∃ v, v = u5 := ⟨_, rfl⟩
    have hln : (listF k (digF (x + y))).length ≤ 1099511627776 := by rw [listF_length]; omega
    have hcs : ∀ o, w.heap.size ≤ (wr.alloc o).heap.size := fun o => by have := HB.out.size; simp; omega
    have RA1 := Lib.hid (rowOf_below RA.out HB.out)
    have RB1 := Lib.hid (rowOf_below RB.out HB.out)
    by_cases h1 : k < nx
    · obtain ⟨b1, o1, rfl, hx1⟩ := row_limb RA1.out (by rw [HNX.out]; exact h1)
      have hdx := dig_lt x k
      obtain ⟨dx, hdxe⟩ : ∃ dx, dig x k = dx := ⟨_, rfl⟩
      rw [hdxe] at hx1 hdx
      have HDX := Lib.hid hdxe
      clear hdxe
      by_cases h2 : k < ny
      · obtain ⟨b2, o2, rfl, hx2⟩ := row_limb RB1.out (by rw [HNY.out]; exact h2)
        have hdy := dig_lt y k
        obtain ⟨dy, hdye⟩ : ∃ dy, dig y k = dy := ⟨_, rfl⟩
        rw [hdye] at hx2 hdy
        have HS := Lib.hid (sum_step HC.out (p := dx) (q := dy) (by rw [HDX.out]) (by rw [hdye]))
        clear hdye
        go_wp2_with (at_builtin; refine append_int rfl _ _ 22 Try.underlying22 rfl w.heap.size _ _ _ ⟨wr.heap.size, 0, none⟩ rfl (HO.out.alloc _) rfl (cell_one_new _ _ _) hln (hcs _) ?_; intro v' w1 h1 hg1)
        go_roundw
        case rel => exact ⟨k + 1, _, by go_num, rfl, by omega, by omega, HS.out.2, by omega, by rw [HS.out.1] at h1; rw [listF_succ]; exact h1, (HB.out.alloc HB.out.size _).grown hg1 (hcs _) fun g hg => (HO.out.lt g hg).1⟩
        case measure => simp [intOf]; omega
      · have HS := Lib.hid (sum_step HC.out (p := dx) (q := 0) (by rw [HDX.out]) (by rw [(HY k).out (by omega)]; rfl))
        rw [Int.add_zero] at HS
        go_wp2_with (at_builtin; refine append_int rfl _ _ 22 Try.underlying22 rfl w.heap.size _ _ _ ⟨wr.heap.size, 0, none⟩ rfl (HO.out.alloc _) rfl (cell_one_new _ _ _) hln (hcs _) ?_; intro v' w1 h1 hg1)
        go_roundw
        case rel => exact ⟨k + 1, _, by go_num, rfl, by omega, by omega, HS.out.2, by omega, by rw [HS.out.1] at h1; rw [listF_succ]; exact h1, (HB.out.alloc HB.out.size _).grown hg1 (hcs _) fun g hg => (HO.out.lt g hg).1⟩
        case measure => simp [intOf]; omega
    · by_cases h2 : k < ny
      · obtain ⟨b2, o2, rfl, hx2⟩ := row_limb RB1.out (by rw [HNY.out]; exact h2)
        have hdy := dig_lt y k
        obtain ⟨dy, hdye⟩ : ∃ dy, dig y k = dy := ⟨_, rfl⟩
        rw [hdye] at hx2 hdy
        have HS := Lib.hid (sum_step HC.out (p := 0) (q := dy) (by rw [(HX k).out (by omega)]; rfl) (by rw [hdye]))
        rw [Int.add_zero] at HS
        clear hdye
        go_wp2_with (at_builtin; refine append_int rfl _ _ 22 Try.underlying22 rfl w.heap.size _ _ _ ⟨wr.heap.size, 0, none⟩ rfl (HO.out.alloc _) rfl (cell_one_new _ _ _) hln (hcs _) ?_; intro v' w1 h1 hg1)
        go_roundw
        case rel => exact ⟨k + 1, _, by go_num, rfl, by omega, by omega, HS.out.2, by omega, by rw [HS.out.1] at h1; rw [listF_succ]; exact h1, (HB.out.alloc HB.out.size _).grown hg1 (hcs _) fun g hg => (HO.out.lt g hg).1⟩
        case measure => simp [intOf]; omega
      · by_cases h3 : 0 < c
        · have hkk : k < max nx ny + 1 := by
            rcases Nat.lt_or_ge k (max nx ny + 1) with h | h
            · exact h
            · have := HC.out
              rw [HZ.out k (by omega) (by omega)] at this
              omega
          have HS := Lib.hid (sum_step HC.out (p := 0) (q := 0) (by rw [(HX k).out (by omega)]; rfl) (by rw [(HY k).out (by omega)]; rfl))
          rw [Int.add_zero, Int.add_zero] at HS
          go_wp2_with (at_builtin; refine append_int rfl _ _ 22 Try.underlying22 rfl w.heap.size _ _ _ ⟨wr.heap.size, 0, none⟩ rfl (HO.out.alloc _) rfl (cell_one_new _ _ _) hln (hcs _) ?_; intro v' w1 h1 hg1)
          go_roundw
          case rel => exact ⟨k + 1, _, by go_num, rfl, by omega, by omega, HS.out.2, by omega, by rw [HS.out.1] at h1; rw [listF_succ]; exact h1, (HB.out.alloc HB.out.size _).grown hg1 (hcs _) fun g hg => (HO.out.lt g hg).1⟩
          case measure => simp [intOf]; omega
        · have HF := Lib.hid (HE.out k (by omega) (by omega) (by rw [← HC.out]; omega))
          go_wp2
          go_ret
          exact ⟨_, rfl, k, HO.out, HF.out, HB.out⟩

theorem okB_cases {zs : List Int} (h : okB zs = true) : ∃ x, zs = limI x ∧ x < pw 60 := ⟨_, okB_lim h⟩
def natAddL (zs0 zs1 : List Int) : List Int := if okB zs0 && okB zs1 then capL (natI zs0 + natI zs1) else []
theorem natAddL_len (zs0 zs1 : List Int) : (natAddL zs0 zs1).length ≤ 1000 := by
  unfold natAddL
  split
  · have := capL_len (natI zs0 + natI zs1); omega
  · simp
theorem natAddL_yes {x y : Nat} (hx : x < pw 60) (hy : y < pw 60) : natAddL (limI x) (limI y) = capL (x + y) := by unfold natAddL; rw [okB_limI hx, okB_limI hy, natI_limI, natI_limI]; rfl
theorem natAddL_no {zs0 zs1 : List Int} (h : okB zs0 = false ∨ okB zs1 = false) : natAddL zs0 zs1 = [] := by
  unfold natAddL; rcases h with h | h <;> rw [h] <;> simp

end Go.Proofs.Ytofmpfcbdemcnaa
