/- Sums, differences and cutting of zeros as the model reckons them; the exact law of NatAdd. -/
import Derived.Test.YthddmilompcfaaaAdd
import Derived.Test.YthddmilompcfaaaNum4
namespace Go.Proofs.Ythddmilompcfaaa
open Go.RowKit

set_option maxHeartbeats 400000 in
theorem spec_trim (v : Value) (T n B : Nat) (w : World) (h : OwnI w B v (listF n (digF T))) (hT : nlen T ≤ n) :
    Calls Try.prog 53 #[v] w fun e w' => ∃ v', e = .returned v' ∧ OwnI w B v' (limI T) ∧ w' = w := by
  rcases h.form with ⟨rfl, hl⟩ | ⟨g, c, hv, hB, hg⟩
  · have hn : n = 0 := by have := congrArg List.length hl; rw [listF_length] at this; simpa using this
    have hT0 : limI T = [] := by
      have : nlen T = 0 := by omega
      unfold limI; rw [this]; rfl
    have HT := Lib.hid hT0
    clear hT0 hl hT h hn
    go_enter Try.func53, Try.ntmps53
    go_wp2
    go_loop [3] (fun sv => sv = .int .i64 0) (fun _ => 0)
    case atStart => rfl
    case round =>
      subst hrel
      go_wp2
      go_ret
      exact ⟨_, rfl, by rw [HT.out]; exact OwnI.nil _ _, rfl⟩
  · rw [listF_length] at hv
    subst hv
    have hcm := h.cap_le
    unfold maxLen at hcm
    have H := Lib.hid h
    clear h hg
    go_enter Try.func53, Try.ntmps53
    go_wp2
    go_loop [3] (fun sv => ∃ k : Nat, k ≤ n ∧ nlen T ≤ k ∧ sv = .int .i64 k) (fun sv => (intOf sv).toNat)
    case atStart => exact ⟨n, Nat.le_refl _, hT, rfl⟩
    case round =>
      obtain ⟨k, hk, hTk, rfl⟩ := hrel
      by_cases hp : 0 < k
      · have hcl := H.out.cell (k - 1) (by rw [listF_length]; omega)
        rw [listF_get] at hcl
        unfold digF at hcl
        have e1 : ((k : Int) - 1).toNat = k - 1 := by omega
        have HM := Lib.hid (trim_more hTk hp)
        have HD := Lib.hid (trim_done hTk hp)
        obtain ⟨d, hd⟩ : ∃ d, dig T (k - 1) = d := ⟨_, rfl⟩
        rw [hd] at hcl HM HD
        clear hd
        by_cases h0 : d = 0
        · have HM2 := Lib.hid (HM.out h0)
          subst h0
          go_wp2
          go_round
          case rel => exact ⟨k - 1, by omega, HM2.out, by go_num⟩
          case measure => simp [intOf]; omega
        · have HD2 := Lib.hid (HD.out h0)
          have hb : ((d : Int) == 0) = false := by simp; exact h0
          clear h0
          go_wp2
          go_ret
          refine ⟨_, rfl, ?_, rfl⟩
          have := H.out.take hk
          rw [HD2.out, limI_take (by have := HD2.out; omega)] at this
          have e := HD2.out
          rw [← e] at this
          exact this
      · obtain rfl : k = 0 := by omega
        have HT : Hid (limI T = []) := by
          unfold Hid
          have : nlen T = 0 := by omega
          unfold limI; rw [this]; rfl
        go_wp2
        go_ret
        refine ⟨_, rfl, ?_, rfl⟩
        have := H.out.take (Nat.zero_le _)
        rw [List.take_zero] at this
        rw [HT.out]
        exact this

set_option maxHeartbeats 400000 in
theorem spec_cap (v : Value) (T n B : Nat) (w : World) (h : OwnI w B v (listF n (digF T))) (hn : nlen T ≤ n) :
    Calls Try.prog 39 #[v] w fun e w' => ∃ v', e = .returned v' ∧ OwnI w B v' (capL T) ∧ w' = w := by
  have H1 := Lib.hid (spec_trim v T n B w h hn)
  clear h
  go_enter Try.func39, Try.ntmps39
  go_wp2_with fail
  refine H1.out.mono ?_
  rintro e w1 ⟨v', rfl, o, rfl⟩
  have H := Lib.hid o
  have hf := o.form
  have hi := nlen_le_iff 60 T
  clear o
  by_cases hT : nlen T ≤ 60
  · have HT := Lib.hid (hi.1 hT)
    rcases hf with ⟨rfl, hl⟩ | ⟨g, c, rfl, _, _⟩
    · clear hl hi
      go_wp2
      go_ret
      exact ⟨_, rfl, by rw [capL_yes HT.out]; exact H.out, rfl⟩
    · clear hi
      rw [limI_length] at H ⊢
      go_wp2
      go_ret
      exact ⟨_, rfl, by rw [capL_yes HT.out]; exact H.out, rfl⟩
  · have HT := Lib.hid (show ¬ T < pw 60 by omega)
    rcases hf with ⟨rfl, hl⟩ | ⟨g, c, rfl, _, _⟩
    · have := congrArg List.length hl
      rw [limI_length] at this
      simp at this
      omega
    · clear hi
      rw [limI_length] at H ⊢
      go_wp2
      go_ret
      exact ⟨_, rfl, by rw [capL_no HT.out]; exact OwnI.nil _ _, rfl⟩

theorem sum_step {x y i : Nat} {c p q : Int} (hc : c = comC 1 1 x y i) (hp : p = (dig x i : Int)) (hq : q = (dig y i : Int)) : (c + p + q) % 1000000000 = digF (x + y) i ∧ (c + p + q) / 1000000000 = comC 1 1 x y (i + 1) := by
  have h := com_step (m := 1) (n := 1) (x := x) (y := y) (T := x + y) (i := i) (by omega) hc (p := p) (q := q) (t := c + p + q) (by rw [hp]; omega) (by rw [hq]; omega) (by omega)
  exact h
set_option maxHeartbeats 1000000 in
theorem spec_add (va vb : Value) (x y : Nat) (w : World) (ha : RowOf iV w va (limI x)) (hb : RowOf iV w vb (limI y)) (hx : nlen x ≤ 1000) (hy : nlen y ≤ 1000) :
    Calls Try.prog 40 #[va, vb] w fun e w' => ∃ v, e = .returned v ∧ ∃ n, OwnI w' w.heap.size v (listF n (digF (x + y))) ∧ nlen (x + y) ≤ n ∧ Below w.heap.size w w' := by
  have RA := Lib.hid ha
  have RB := Lib.hid hb
  obtain ⟨aa, ca, rfl, h1, h2, h3⟩ := ha
  obtain ⟨ab, cb, rfl, h4, h5, h6⟩ := hb
  clear h1 h2 h3 h4 h5 h6
  rw [limI_length] at RA RB ⊢
  rw [limI_length]
  have HX := fun k => Lib.hid (fun h : nlen x ≤ k => dig_past h)
  have HY := fun k => Lib.hid (fun h : nlen y ≤ k => dig_past h)
  have HZ := Lib.hid (fun (k : Nat) (h1 : nlen x < k) (h2 : nlen y < k) => comC_last h1 h2)
  have HE := Lib.hid (fun (k : Nat) (h1 : nlen x ≤ k) (h2 : nlen y ≤ k) (h3 : comC 1 1 x y k = 0) => comC_done h1 h2 h3)
  have HN := Lib.hid (fun k => comC_bound 1 1 x y k 2 (by omega))
  have HP := Lib.hid (fun k => comC_nonneg (x := x) (y := y) (i := k))
  obtain ⟨nx, hnx⟩ : ∃ nx, nlen x = nx := ⟨_, rfl⟩
  obtain ⟨ny, hny⟩ : ∃ ny, nlen y = ny := ⟨_, rfl⟩
  rw [hnx] at hx RA HX HZ HE ⊢
  rw [hny] at hy RB HY HZ HE ⊢
  have HNX := Lib.hid hnx
  have HNY := Lib.hid hny
  clear hnx hny
  go_enter Try.func40, Try.ntmps40
  go_wp2
  go_loopw [5, 6, 7] (fun ov cv iv wr => ∃ (k : Nat) (c : Int), iv = .int .i64 k ∧ cv = .int .i64 c ∧ 0 ≤ c ∧ c ≤ 2 ∧ Hid (c = comC 1 1 x y k) ∧ k ≤ max nx ny + 1 ∧ Hid (OwnI wr w.heap.size ov (listF k (digF (x + y)))) ∧ Hid (Below w.heap.size w wr)) (fun _ _ iv _ => max nx ny + 2 - (intOf iv).toNat)
  case atStart => exact ⟨0, 0, rfl, rfl, by omega, by omega, (comC_zero 1 1 x y).symm, by omega, OwnI.lit0 w, (Below.refl _ w).alloc (Nat.le_refl _) _⟩
  case round =>
    obtain ⟨k, c, rfl, rfl, hc0, hc2, HC, hkm, HO, HB⟩ := hrel
    obtain ⟨v, rfl⟩ : ∃ v, v = u5 := ⟨_, rfl⟩
    have hln : (listF k (digF (x + y))).length ≤ 1099511627776 := by rw [listF_length]; omega
    have hcs : ∀ o, w.heap.size ≤ (wr.alloc o).heap.size := fun o => by have := HB.out.size; simp; omega
    have RA1 := Lib.hid (rowOf_below RA.out HB.out)
    have RB1 := Lib.hid (rowOf_below RB.out HB.out)
    by_cases h1 : k < nx
    · obtain ⟨b1, o1, rfl, hx1⟩ := row_limb RA1.out (by rw [HNX.out]; exact h1)
      have hdx := dig_lt x k
      obtain ⟨dx, hdxe⟩ : ∃ dx, dig x k = dx := ⟨_, rfl⟩
      rw [hdxe] at hx1 hdx
      have HDX := Lib.hid hdxe
      clear hdxe
      by_cases h2 : k < ny
      · obtain ⟨b2, o2, rfl, hx2⟩ := row_limb RB1.out (by rw [HNY.out]; exact h2)
        have hdy := dig_lt y k
        obtain ⟨dy, hdye⟩ : ∃ dy, dig y k = dy := ⟨_, rfl⟩
        rw [hdye] at hx2 hdy
        have HS := Lib.hid (sum_step HC.out (p := dx) (q := dy) (by rw [HDX.out]) (by rw [hdye]))
        clear hdye
        go_wp2_with (at_builtin; refine append_int rfl _ _ 22 Try.underlying22 rfl w.heap.size _ _ _ ⟨wr.heap.size, 0, none⟩ rfl (HO.out.alloc _) rfl (cell_one_new _ _ _) hln (hcs _) ?_; intro v' w1 h1 hg1)
        go_roundw
        case rel => exact ⟨k + 1, _, by go_num, rfl, by omega, by omega, HS.out.2, by omega, by rw [HS.out.1] at h1; rw [listF_succ]; exact h1, (HB.out.alloc HB.out.size _).grown hg1 (hcs _) fun g hg => (HO.out.lt g hg).1⟩
        case measure => simp [intOf]; omega
      · have HS := Lib.hid (sum_step HC.out (p := dx) (q := 0) (by rw [HDX.out]) (by rw [(HY k).out (by omega)]; rfl))
        rw [Int.add_zero] at HS
        go_wp2_with (at_builtin; refine append_int rfl _ _ 22 Try.underlying22 rfl w.heap.size _ _ _ ⟨wr.heap.size, 0, none⟩ rfl (HO.out.alloc _) rfl (cell_one_new _ _ _) hln (hcs _) ?_; intro v' w1 h1 hg1)
        go_roundw
        case rel => exact ⟨k + 1, _, by go_num, rfl, by omega, by omega, HS.out.2, by omega, by rw [HS.out.1] at h1; rw [listF_succ]; exact h1, (HB.out.alloc HB.out.size _).grown hg1 (hcs _) fun g hg => (HO.out.lt g hg).1⟩
        case measure => simp [intOf]; omega
    · by_cases h2 : k < ny
      · obtain ⟨b2, o2, rfl, hx2⟩ := row_limb RB1.out (by rw [HNY.out]; exact h2)
        have hdy := dig_lt y k
        obtain ⟨dy, hdye⟩ : ∃ dy, dig y k = dy := ⟨_, rfl⟩
        rw [hdye] at hx2 hdy
        have HS := Lib.hid (sum_step HC.out (p := 0) (q := dy) (by rw [(HX k).out (by omega)]; rfl) (by rw [hdye]))
        rw [Int.add_zero] at HS
        clear hdye
        go_wp2_with (at_builtin; refine append_int rfl _ _ 22 Try.underlying22 rfl w.heap.size _ _ _ ⟨wr.heap.size, 0, none⟩ rfl (HO.out.alloc _) rfl (cell_one_new _ _ _) hln (hcs _) ?_; intro v' w1 h1 hg1)
        go_roundw
        case rel => exact ⟨k + 1, _, by go_num, rfl, by omega, by omega, HS.out.2, by omega, by rw [HS.out.1] at h1; rw [listF_succ]; exact h1, (HB.out.alloc HB.out.size _).grown hg1 (hcs _) fun g hg => (HO.out.lt g hg).1⟩
        case measure => simp [intOf]; omega
      · by_cases h3 : 0 < c
        · have hkk : k < max nx ny + 1 := by
            rcases Nat.lt_or_ge k (max nx ny + 1) with h | h
            · exact h
            · have := HC.out
              rw [HZ.out k (by omega) (by omega)] at this
              omega
          have HS := Lib.hid (sum_step HC.out (p := 0) (q := 0) (by rw [(HX k).out (by omega)]; rfl) (by rw [(HY k).out (by omega)]; rfl))
          rw [Int.add_zero, Int.add_zero] at HS
          go_wp2_with (at_builtin; refine append_int rfl _ _ 22 Try.underlying22 rfl w.heap.size _ _ _ ⟨wr.heap.size, 0, none⟩ rfl (HO.out.alloc _) rfl (cell_one_new _ _ _) hln (hcs _) ?_; intro v' w1 h1 hg1)
          go_roundw
          case rel => exact ⟨k + 1, _, by go_num, rfl, by omega, by omega, HS.out.2, by omega, by rw [HS.out.1] at h1; rw [listF_succ]; exact h1, (HB.out.alloc HB.out.size _).grown hg1 (hcs _) fun g hg => (HO.out.lt g hg).1⟩
          case measure => simp [intOf]; omega
        · have HF := Lib.hid (HE.out k (by omega) (by omega) (by rw [← HC.out]; omega))
          go_wp2
          go_ret
          exact ⟨_, rfl, k, HO.out, HF.out, HB.out⟩

theorem okB_cases {zs : List Int} (h : okB zs = true) : ∃ x, zs = limI x ∧ x < pw 60 := ⟨_, okB_lim h⟩
def natAddL (zs0 zs1 : List Int) : List Int := if okB zs0 && okB zs1 then capL (natI zs0 + natI zs1) else []
theorem natAddL_len (zs0 zs1 : List Int) : (natAddL zs0 zs1).length ≤ 1000 := by
  unfold natAddL
  split
  · have := capL_len (natI zs0 + natI zs1); omega
  · simp
theorem natAddL_yes {x y : Nat} (hx : x < pw 60) (hy : y < pw 60) : natAddL (limI x) (limI y) = capL (x + y) := by unfold natAddL; rw [okB_limI hx, okB_limI hy, natI_limI, natI_limI]; rfl
theorem natAddL_no {zs0 zs1 : List Int} (h : okB zs0 = false ∨ okB zs1 = false) : natAddL zs0 zs1 = [] := by
  unfold natAddL; rcases h with h | h <;> rw [h] <;> simp

set_option maxHeartbeats 400000 in
theorem spec_natAdd (va : Value) (zs0 : List Int) (vb : Value) (zs1 : List Int) (w : World) (ha : RowOf iV w va zs0) (hb : RowOf iV w vb zs1) :
    Calls Try.prog 24 #[va, vb] w fun e w' => ∃ v, e = .returned v ∧ OwnI w' w.heap.size v (natAddL zs0 zs1) ∧ Below w.heap.size w w' := by
  have K0 := Lib.hid (spec_natOk va zs0 w ha)
  have K1 := Lib.hid (spec_natOk vb zs1 w hb)
  cases e0 : okB zs0 with
  | false =>
    have HE := Lib.hid (natAddL_no (zs0 := zs0) (zs1 := zs1) (.inl e0))
    obtain ⟨aa, ca, rfl, h1, h2, h3⟩ := ha
    obtain ⟨ab, cb, rfl, h4, h5, h6⟩ := hb
    rw [e0] at K0
    clear e0 h1 h2 h3 h4 h5 h6
    go_enter Try.func24, Try.ntmps24
    go_wp2_with fail
    refine K0.out.mono ?_
    rintro e w1 ⟨rfl, rfl⟩
    go_wp2
    go_ret
    exact ⟨_, rfl, by rw [HE.out]; exact OwnI.nil _ _, Below.refl _ _⟩
  | true =>
    cases e1 : okB zs1 with
    | false =>
      have HE := Lib.hid (natAddL_no (zs0 := zs0) (zs1 := zs1) (.inr e1))
      obtain ⟨aa, ca, rfl, h1, h2, h3⟩ := ha
      obtain ⟨ab, cb, rfl, h4, h5, h6⟩ := hb
      rw [e0] at K0
      rw [e1] at K1
      clear e0 e1 h1 h2 h3 h4 h5 h6
      go_enter Try.func24, Try.ntmps24
      go_wp2_with fail
      refine K0.out.mono ?_
      rintro e w1 ⟨rfl, rfl⟩
      go_wp2_with fail
      refine K1.out.mono ?_
      rintro e w1 ⟨rfl, rfl⟩
      go_wp2
      go_ret
      exact ⟨_, rfl, by rw [HE.out]; exact OwnI.nil _ _, Below.refl _ _⟩
    | true =>
      obtain ⟨x, rfl, hx⟩ := okB_cases e0
      obtain ⟨y, rfl, hy⟩ := okB_cases e1
      have HE := Lib.hid (natAddL_yes (x := x) (y := y) hx hy)
      have H60x := Lib.hid ((nlen_le_iff _ _).2 hx)
      have H60y := Lib.hid ((nlen_le_iff _ _).2 hy)
      have hx1 : nlen x ≤ 1000 := by have := H60x.out; omega
      have hy1 : nlen y ≤ 1000 := by have := H60y.out; omega
      rw [e0] at K0
      rw [e1] at K1
      have RA := Lib.hid ha
      have RB := Lib.hid hb
      obtain ⟨aa, ca, rfl, h1, h2, h3⟩ := ha
      obtain ⟨ab, cb, rfl, h4, h5, h6⟩ := hb
      clear h1 h2 h3 h4 h5 h6 e0 e1 hx hy
      rw [limI_length] at RA K0 ⊢
      rw [limI_length] at RB K1
      try rw [limI_length]
      go_enter Try.func24, Try.ntmps24
      go_wp2_with fail
      refine K0.out.mono ?_
      rintro e w1 ⟨rfl, rfl⟩
      go_wp2_with fail
      refine K1.out.mono ?_
      rintro e w1 ⟨rfl, rfl⟩
      go_wp2_with fail
      refine (spec_add _ _ x y _ RA.out RB.out hx1 hy1).mono ?_
      rintro e w2 ⟨v, rfl, n, o, hn, b⟩
      have O := Lib.hid (spec_cap v (x + y) n w1.heap.size w2 o hn)
      clear o hn
      go_wp2_with fail
      refine O.out.mono ?_
      rintro e w3 ⟨v', rfl, o, rfl⟩
      have O2 := Lib.hid o
      clear o
      go_wp2
      go_ret
      exact ⟨_, rfl, by rw [HE.out]; exact O2.out, b⟩

set_option maxHeartbeats 400000 in
theorem impl_natAdd (va : Value) (zs0 : List Int) (vb : Value) (zs1 : List Int) (w : World) (ha : RowOf iV w va zs0) (hb : RowOf iV w vb zs1) :
    Calls Try.prog 25 #[va, vb] w fun e w' => ∃ v, e = .returned v ∧ OwnI w' w.heap.size v (natAddL zs0 zs1) ∧ Below w.heap.size w w' := by
  have K0 := Lib.hid (impl_natOk va zs0 w ha)
  have K1 := Lib.hid (impl_natOk vb zs1 w hb)
  cases e0 : okB zs0 with
  | false =>
    have HE := Lib.hid (natAddL_no (zs0 := zs0) (zs1 := zs1) (.inl e0))
    obtain ⟨aa, ca, rfl, h1, h2, h3⟩ := ha
    obtain ⟨ab, cb, rfl, h4, h5, h6⟩ := hb
    rw [e0] at K0
    clear e0 h1 h2 h3 h4 h5 h6
    go_enter Try.func25, Try.ntmps25
    go_wp2_with fail
    refine K0.out.mono ?_
    rintro e w1 ⟨rfl, rfl⟩
    go_wp2
    go_ret
    exact ⟨_, rfl, by rw [HE.out]; exact OwnI.nil _ _, Below.refl _ _⟩
  | true =>
    cases e1 : okB zs1 with
    | false =>
      have HE := Lib.hid (natAddL_no (zs0 := zs0) (zs1 := zs1) (.inr e1))
      obtain ⟨aa, ca, rfl, h1, h2, h3⟩ := ha
      obtain ⟨ab, cb, rfl, h4, h5, h6⟩ := hb
      rw [e0] at K0
      rw [e1] at K1
      clear e0 e1 h1 h2 h3 h4 h5 h6
      go_enter Try.func25, Try.ntmps25
      go_wp2_with fail
      refine K0.out.mono ?_
      rintro e w1 ⟨rfl, rfl⟩
      go_wp2_with fail
      refine K1.out.mono ?_
      rintro e w1 ⟨rfl, rfl⟩
      go_wp2
      go_ret
      exact ⟨_, rfl, by rw [HE.out]; exact OwnI.nil _ _, Below.refl _ _⟩
    | true =>
      obtain ⟨x, rfl, hx⟩ := okB_cases e0
      obtain ⟨y, rfl, hy⟩ := okB_cases e1
      have HE := Lib.hid (natAddL_yes (x := x) (y := y) hx hy)
      have H60x := Lib.hid ((nlen_le_iff _ _).2 hx)
      have H60y := Lib.hid ((nlen_le_iff _ _).2 hy)
      have hx1 : nlen x ≤ 1000 := by have := H60x.out; omega
      have hy1 : nlen y ≤ 1000 := by have := H60y.out; omega
      rw [e0] at K0
      rw [e1] at K1
      have RA := Lib.hid ha
      have RB := Lib.hid hb
      obtain ⟨aa, ca, rfl, h1, h2, h3⟩ := ha
      obtain ⟨ab, cb, rfl, h4, h5, h6⟩ := hb
      clear h1 h2 h3 h4 h5 h6 e0 e1 hx hy
      rw [limI_length] at RA K0 ⊢
      rw [limI_length] at RB K1
      try rw [limI_length]
      go_enter Try.func25, Try.ntmps25
      go_wp2_with fail
      refine K0.out.mono ?_
      rintro e w1 ⟨rfl, rfl⟩
      go_wp2_with fail
      refine K1.out.mono ?_
      rintro e w1 ⟨rfl, rfl⟩
      go_wp2_with fail
      refine (impl_plus _ _ x y _ RA.out RB.out hx1 hy1).mono ?_
      rintro e w2 ⟨v, rfl, o, b⟩
      have O := Lib.hid (impl_limited v (x + y) w1.heap.size w2 o)
      clear o
      go_wp2_with fail
      refine O.out.mono ?_
      rintro e w3 ⟨v', rfl, o, rfl⟩
      have O2 := Lib.hid o
      clear o
      go_wp2
      go_ret
      exact ⟨_, rfl, by rw [HE.out]; exact O2.out, b⟩

set_option maxHeartbeats 2000000 in
theorem law_natAdd (W : World) (v0 : Value) (zs0 : List Int) (h0 : RowOf iV W v0 zs0) (_ : True) (v1 : Value) (zs1 : List Int) (h1 : RowOf iV W v1 zs1) (_ : True) :
    Calls Try.prog 7 #[v0, v1] W fun e w' => e = .returned (.bool true) ∧ Below W.heap.size W w' := by
  have R0 := Lib.hid h0
  obtain ⟨a0, c0, rfl, hc0, hm0, hr0⟩ := h0
  clear hr0
  unfold maxLen at hm0
  obtain ⟨m0, hm0'⟩ : ∃ n, zs0.length = n := ⟨_, rfl⟩
  rw [hm0'] at hc0 R0 ⊢
  have N0 := Lib.hid hm0'
  clear hm0'
  have R1 := Lib.hid h1
  obtain ⟨a1, c1, rfl, hc1, hm1, hr1⟩ := h1
  clear hr1
  unfold maxLen at hm1
  obtain ⟨m1, hm1'⟩ : ∃ n, zs1.length = n := ⟨_, rfl⟩
  rw [hm1'] at hc1 R1 ⊢
  have N1 := Lib.hid hm1'
  clear hm1'
  by_cases hl0 : m0 ≤ 1048576
  rotate_left
  · go_enter Try.func7, Try.ntmps7
    go_wp2
    go_ret
    exact ⟨rfl, Below.refl _ _⟩
  by_cases hl1 : m1 ≤ 1048576
  rotate_left
  · go_enter Try.func7, Try.ntmps7
    go_wp2
    go_ret
    exact ⟨rfl, Below.refl _ _⟩
  go_enter Try.func7, Try.ntmps7
  go_wp2_with fail
  refine (to_ints _ zs0 _ R0.out (by rw [N0.out]; omega)).mono ?_
  rintro e w1 ⟨v_t1, rfl, o_t1, b1⟩
  have z1 := Lib.hid b1.size
  have B := Lib.hid b1
  have O_t1 := Lib.hid o_t1
  have L_t1 := Lib.hid o_t1.lt
  clear o_t1
  clear b1
  go_wp2_with fail
  refine (to_ints _ zs1 _ (rowOf_below R1.out B.out) (by rw [N1.out]; omega)).mono ?_
  rintro e w2 ⟨v_t2, rfl, o_t2, b2⟩
  have z2 := Lib.hid b2.size
  replace O_t1 := Lib.hid (O_t1.out.below b2)
  replace B := Lib.hid (B.out.trans (b2.mono B.out.size))
  have O_t2 := Lib.hid o_t2
  have L_t2 := Lib.hid o_t2.lt
  clear o_t2
  clear b2
  go_wp2_with fail
  refine (spec_natAdd _ zs0 _ zs1 _  O_t1.out.row O_t2.out.row).mono ?_
  rintro e w3 ⟨v_w_0, rfl, o_w_0, b3⟩
  have z3 := Lib.hid b3.size
  replace O_t1 := Lib.hid (O_t1.out.below b3)
  replace O_t2 := Lib.hid (O_t2.out.below b3)
  replace B := Lib.hid (B.out.trans (b3.mono B.out.size))
  have O_w_0 := Lib.hid o_w_0
  have L_w_0 := Lib.hid o_w_0.lt
  clear o_w_0
  clear b3
  clear O_t1 L_t1
  clear O_t2 L_t2
  go_wp2_with fail
  refine (to_ints _ zs0 _ (rowOf_below R0.out B.out) (by rw [N0.out]; omega)).mono ?_
  rintro e w4 ⟨v_t3, rfl, o_t3, b4⟩
  have z4 := Lib.hid b4.size
  replace O_w_0 := Lib.hid (O_w_0.out.below b4)
  replace B := Lib.hid (B.out.trans (b4.mono B.out.size))
  have O_t3 := Lib.hid o_t3
  have L_t3 := Lib.hid o_t3.lt
  clear o_t3
  clear b4
  go_wp2_with fail
  refine (to_ints _ zs1 _ (rowOf_below R1.out B.out) (by rw [N1.out]; omega)).mono ?_
  rintro e w5 ⟨v_t4, rfl, o_t4, b5⟩
  have z5 := Lib.hid b5.size
  replace O_w_0 := Lib.hid (O_w_0.out.below b5)
  replace O_t3 := Lib.hid (O_t3.out.below b5)
  replace B := Lib.hid (B.out.trans (b5.mono B.out.size))
  have O_t4 := Lib.hid o_t4
  have L_t4 := Lib.hid o_t4.lt
  clear o_t4
  clear b5
  go_wp2_with fail
  refine (impl_natAdd _ zs0 _ zs1 _  O_t3.out.row O_t4.out.row).mono ?_
  rintro e w6 ⟨v_g_0, rfl, o_g_0, b6⟩
  have z6 := Lib.hid b6.size
  replace O_w_0 := Lib.hid (O_w_0.out.below b6)
  replace O_t3 := Lib.hid (O_t3.out.below b6)
  replace O_t4 := Lib.hid (O_t4.out.below b6)
  replace B := Lib.hid (B.out.trans (b6.mono B.out.size))
  have O_g_0 := Lib.hid o_g_0
  have L_g_0 := Lib.hid o_g_0.lt
  clear o_g_0
  clear b6
  go_wp2_with fail
  refine (eq_intsB _ _ _ _ O_g_0.out.row O_w_0.out.row).mono ?_
  rintro e w7 ⟨rfl, b7⟩
  have z7 := Lib.hid b7.size
  replace O_w_0 := Lib.hid (O_w_0.out.below b7)
  replace O_t3 := Lib.hid (O_t3.out.below b7)
  replace O_t4 := Lib.hid (O_t4.out.below b7)
  replace O_g_0 := Lib.hid (O_g_0.out.below b7)
  replace B := Lib.hid (B.out.trans (b7.mono B.out.size))
  clear b7
  go_wp2_with fail
  refine (to_ints _ zs0 _ (rowOf_below R0.out B.out) (by rw [N0.out]; omega)).mono ?_
  rintro e w8 ⟨v_t5, rfl, o_t5, b8⟩
  have z8 := Lib.hid b8.size
  replace O_w_0 := Lib.hid (O_w_0.out.below b8)
  replace O_t3 := Lib.hid (O_t3.out.below b8)
  replace O_t4 := Lib.hid (O_t4.out.below b8)
  replace O_g_0 := Lib.hid (O_g_0.out.below b8)
  replace B := Lib.hid (B.out.trans (b8.mono B.out.size))
  have O_t5 := Lib.hid o_t5
  have L_t5 := Lib.hid o_t5.lt
  clear o_t5
  clear b8
  go_wp2_with fail
  refine (eq_intsB _ _ _ _ O_t3.out.row O_t5.out.row).mono ?_
  rintro e w9 ⟨rfl, b9⟩
  have z9 := Lib.hid b9.size
  replace O_w_0 := Lib.hid (O_w_0.out.below b9)
  replace O_t3 := Lib.hid (O_t3.out.below b9)
  replace O_t4 := Lib.hid (O_t4.out.below b9)
  replace O_g_0 := Lib.hid (O_g_0.out.below b9)
  replace O_t5 := Lib.hid (O_t5.out.below b9)
  replace B := Lib.hid (B.out.trans (b9.mono B.out.size))
  clear b9
  clear O_t5 L_t5
  go_wp2_with fail
  refine (to_ints _ zs1 _ (rowOf_below R1.out B.out) (by rw [N1.out]; omega)).mono ?_
  rintro e w10 ⟨v_t6, rfl, o_t6, b10⟩
  have z10 := Lib.hid b10.size
  replace O_w_0 := Lib.hid (O_w_0.out.below b10)
  replace O_t3 := Lib.hid (O_t3.out.below b10)
  replace O_t4 := Lib.hid (O_t4.out.below b10)
  replace O_g_0 := Lib.hid (O_g_0.out.below b10)
  replace B := Lib.hid (B.out.trans (b10.mono B.out.size))
  have O_t6 := Lib.hid o_t6
  have L_t6 := Lib.hid o_t6.lt
  clear o_t6
  clear b10
  go_wp2_with fail
  refine (eq_intsB _ _ _ _ O_t4.out.row O_t6.out.row).mono ?_
  rintro e w11 ⟨rfl, b11⟩
  have z11 := Lib.hid b11.size
  replace O_w_0 := Lib.hid (O_w_0.out.below b11)
  replace O_t3 := Lib.hid (O_t3.out.below b11)
  replace O_t4 := Lib.hid (O_t4.out.below b11)
  replace O_g_0 := Lib.hid (O_g_0.out.below b11)
  replace O_t6 := Lib.hid (O_t6.out.below b11)
  replace B := Lib.hid (B.out.trans (b11.mono B.out.size))
  clear b11
  clear O_t6 L_t6
  go_wp2_with fail
  refine (mark_ints _ (1) _ _ _ _ (by simp) O_t3.out (by rw [N0.out]; omega)).mono ?_
  rintro e w12 ⟨rfl, o12, b12⟩
  have z12 := Lib.hid (grownBy_size b12)
  replace O_w_0 := Lib.hid (O_w_0.out.other b12 (fun g g' e1 e2 => by have := L_w_0.out g e1; have := L_t3.out g' e2; have := z1.out; have := z2.out; have := z3.out; have := z4.out; have := z5.out; have := z6.out; have := z7.out; have := z8.out; have := z9.out; have := z10.out; have := z11.out; omega))
  replace O_t3 := Lib.hid o12
  replace O_t4 := Lib.hid (O_t4.out.other b12 (fun g g' e1 e2 => by have := L_t4.out g e1; have := L_t3.out g' e2; have := z1.out; have := z2.out; have := z3.out; have := z4.out; have := z5.out; have := z6.out; have := z7.out; have := z8.out; have := z9.out; have := z10.out; have := z11.out; omega))
  replace O_g_0 := Lib.hid (O_g_0.out.other b12 (fun g g' e1 e2 => by have := L_g_0.out g e1; have := L_t3.out g' e2; have := z1.out; have := z2.out; have := z3.out; have := z4.out; have := z5.out; have := z6.out; have := z7.out; have := z8.out; have := z9.out; have := z10.out; have := z11.out; omega))
  replace B := Lib.hid (Below.grown B.out b12 B.out.size (fun g hg => by have := L_t3.out g hg; have := z1.out; have := z2.out; have := z3.out; have := z4.out; have := z5.out; have := z6.out; have := z7.out; have := z8.out; have := z9.out; have := z10.out; have := z11.out; have := B.out.size; omega))
  clear o12
  clear b12
  rw [N0.out]
  go_wp2_with fail
  refine (mark_ints _ (1 + m0) _ _ _ _ (by simp) O_t4.out (by rw [N1.out]; omega)).mono ?_
  rintro e w13 ⟨rfl, o13, b13⟩
  have z13 := Lib.hid (grownBy_size b13)
  replace O_w_0 := Lib.hid (O_w_0.out.other b13 (fun g g' e1 e2 => by have := L_w_0.out g e1; have := L_t4.out g' e2; have := z1.out; have := z2.out; have := z3.out; have := z4.out; have := z5.out; have := z6.out; have := z7.out; have := z8.out; have := z9.out; have := z10.out; have := z11.out; have := z12.out; omega))
  replace O_t3 := Lib.hid (O_t3.out.other b13 (fun g g' e1 e2 => by have := L_t3.out g e1; have := L_t4.out g' e2; have := z1.out; have := z2.out; have := z3.out; have := z4.out; have := z5.out; have := z6.out; have := z7.out; have := z8.out; have := z9.out; have := z10.out; have := z11.out; have := z12.out; omega))
  replace O_t4 := Lib.hid o13
  replace O_g_0 := Lib.hid (O_g_0.out.other b13 (fun g g' e1 e2 => by have := L_g_0.out g e1; have := L_t4.out g' e2; have := z1.out; have := z2.out; have := z3.out; have := z4.out; have := z5.out; have := z6.out; have := z7.out; have := z8.out; have := z9.out; have := z10.out; have := z11.out; have := z12.out; omega))
  replace B := Lib.hid (Below.grown B.out b13 B.out.size (fun g hg => by have := L_t4.out g hg; have := z1.out; have := z2.out; have := z3.out; have := z4.out; have := z5.out; have := z6.out; have := z7.out; have := z8.out; have := z9.out; have := z10.out; have := z11.out; have := z12.out; have := B.out.size; omega))
  clear o13
  clear b13
  rw [N1.out]
  clear O_t3 L_t3
  clear O_t4 L_t4
  go_wp2_with fail
  refine (eq_intsB _ _ _ _ O_g_0.out.row O_w_0.out.row).mono ?_
  rintro e w14 ⟨rfl, b14⟩
  have z14 := Lib.hid b14.size
  replace O_w_0 := Lib.hid (O_w_0.out.below b14)
  replace O_g_0 := Lib.hid (O_g_0.out.below b14)
  replace B := Lib.hid (B.out.trans (b14.mono B.out.size))
  clear b14
  have hl_0 := Lib.hid (natAddL_len zs0 zs1)
  obtain ⟨q0, hq0⟩ : ∃ n, (natAddL zs0 zs1).length = n := ⟨_, rfl⟩
  have Q0 := Lib.hid hq0
  rw [hq0] at hl_0
  clear hq0
  go_wp2_with fail
  refine (mark_ints _ (1) _ _ _ _ (by simp) O_g_0.out (by rw [Q0.out]; have := hl_0.out; omega)).mono ?_
  rintro e w15 ⟨rfl, o15, b15⟩
  have z15 := Lib.hid (grownBy_size b15)
  replace O_w_0 := Lib.hid (O_w_0.out.other b15 (fun g g' e1 e2 => by have := L_w_0.out g e1; have := L_g_0.out g' e2; have := z1.out; have := z2.out; have := z3.out; have := z4.out; have := z5.out; have := z6.out; have := z7.out; have := z8.out; have := z9.out; have := z10.out; have := z11.out; have := z12.out; have := z13.out; have := z14.out; omega))
  replace O_g_0 := Lib.hid o15
  replace B := Lib.hid (Below.grown B.out b15 B.out.size (fun g hg => by have := L_g_0.out g hg; have := z1.out; have := z2.out; have := z3.out; have := z4.out; have := z5.out; have := z6.out; have := z7.out; have := z8.out; have := z9.out; have := z10.out; have := z11.out; have := z12.out; have := z13.out; have := z14.out; have := B.out.size; omega))
  clear o15
  clear b15
  rw [Q0.out] at O_g_0 ⊢
  go_wp2_with fail
  refine (held_intsB _ q0 (1) _ _ (by simp) O_g_0.out.row (by have := hl_0.out; omega)).mono ?_
  rintro e w16 ⟨rfl, b16⟩
  have z16 := Lib.hid b16.size
  replace O_w_0 := Lib.hid (O_w_0.out.below b16)
  replace O_g_0 := Lib.hid (O_g_0.out.below b16)
  replace B := Lib.hid (B.out.trans (b16.mono B.out.size))
  clear b16
  go_wp2_with fail
  refine (to_ints _ zs0 _ (rowOf_below R0.out B.out) (by rw [N0.out]; omega)).mono ?_
  rintro e w17 ⟨v_t7, rfl, o_t7, b17⟩
  have z17 := Lib.hid b17.size
  replace O_w_0 := Lib.hid (O_w_0.out.below b17)
  replace O_g_0 := Lib.hid (O_g_0.out.below b17)
  replace B := Lib.hid (B.out.trans (b17.mono B.out.size))
  have O_t7 := Lib.hid o_t7
  have L_t7 := Lib.hid o_t7.lt
  clear o_t7
  clear b17
  go_wp2_with fail
  refine (to_ints _ zs1 _ (rowOf_below R1.out B.out) (by rw [N1.out]; omega)).mono ?_
  rintro e w18 ⟨v_t8, rfl, o_t8, b18⟩
  have z18 := Lib.hid b18.size
  replace O_w_0 := Lib.hid (O_w_0.out.below b18)
  replace O_g_0 := Lib.hid (O_g_0.out.below b18)
  replace O_t7 := Lib.hid (O_t7.out.below b18)
  replace B := Lib.hid (B.out.trans (b18.mono B.out.size))
  have O_t8 := Lib.hid o_t8
  have L_t8 := Lib.hid o_t8.lt
  clear o_t8
  clear b18
  go_wp2_with fail
  refine (impl_natAdd _ zs0 _ zs1 _  O_t7.out.row O_t8.out.row).mono ?_
  rintro e w19 ⟨v_h_0, rfl, o_h_0, b19⟩
  have z19 := Lib.hid b19.size
  replace O_w_0 := Lib.hid (O_w_0.out.below b19)
  replace O_g_0 := Lib.hid (O_g_0.out.below b19)
  replace O_t7 := Lib.hid (O_t7.out.below b19)
  replace O_t8 := Lib.hid (O_t8.out.below b19)
  replace B := Lib.hid (B.out.trans (b19.mono B.out.size))
  have O_h_0 := Lib.hid o_h_0
  have L_h_0 := Lib.hid o_h_0.lt
  clear o_h_0
  clear b19
  clear O_t7 L_t7
  clear O_t8 L_t8
  go_wp2_with fail
  refine (eq_intsB _ _ _ _ O_h_0.out.row O_w_0.out.row).mono ?_
  rintro e w20 ⟨rfl, b20⟩
  have z20 := Lib.hid b20.size
  replace O_w_0 := Lib.hid (O_w_0.out.below b20)
  replace O_g_0 := Lib.hid (O_g_0.out.below b20)
  replace O_h_0 := Lib.hid (O_h_0.out.below b20)
  replace B := Lib.hid (B.out.trans (b20.mono B.out.size))
  clear b20
  go_wp2_with fail
  refine (held_intsB _ q0 (1) _ _ (by simp) O_g_0.out.row (by have := hl_0.out; omega)).mono ?_
  rintro e w21 ⟨rfl, b21⟩
  have z21 := Lib.hid b21.size
  replace O_w_0 := Lib.hid (O_w_0.out.below b21)
  replace O_g_0 := Lib.hid (O_g_0.out.below b21)
  replace O_h_0 := Lib.hid (O_h_0.out.below b21)
  replace B := Lib.hid (B.out.trans (b21.mono B.out.size))
  clear b21
  go_wp2
  go_ret
  exact ⟨rfl, B.out⟩


end Go.Proofs.Ythddmilompcfaaa
