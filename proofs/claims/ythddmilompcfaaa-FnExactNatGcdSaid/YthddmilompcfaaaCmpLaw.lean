/- Comparing and subtracting in the model; the exact laws of NatCmp, NatSub and NatToInt. -/
import Derived.Test.YthddmilompcfaaaCompare
import Derived.Test.YthddmilompcfaaaSpecAdd
namespace Go.Proofs.Ythddmilompcfaaa
open Go.RowKit

set_option maxHeartbeats 1000000 in
theorem spec_cmp (va vb : Value) (x y : Nat) (w : World) (ha : RowOf iV w va (limI x)) (hb : RowOf iV w vb (limI y)) (hx : nlen x ≤ 1000) (hy : nlen y ≤ 1000) :
    Calls Try.prog 36 #[va, vb] w fun e w' => e = .returned (.int .i64 (cmpN x y)) ∧ Below w.heap.size w w' := by
  have RA := Lib.hid ha
  have RB := Lib.hid hb
  obtain ⟨a, cap, rfl, h1, h2, h3⟩ := ha
  obtain ⟨b, cb, rfl, h4, h5, h6⟩ := hb
  clear h1 h2 h3 h4 h5 h6
  rw [limI_length] at RA RB ⊢
  rw [limI_length]
  by_cases hlen : nlen x = nlen y
  · have HLX := Lib.hid (lt_pw_nlen x)
    have HLY := Lib.hid (lt_pw_nlen y)
    rw [← hlen] at HLY RB ⊢
    have HNX : Hid (nlen x = nlen x) := rfl
    have HNY := Lib.hid hlen
    obtain ⟨n, hn⟩ : ∃ n, nlen x = n := ⟨_, rfl⟩
    rw [hn] at hx RA RB HLX HLY HNY ⊢
    have HN := Lib.hid hn
    clear hn hlen hy HNX
    have hneq : ((n : Int) != (n : Int)) = false := by simp
    go_enter Try.func36, Try.ntmps36
    go_wp2
    clear hneq
    go_loopw [5] (fun i wr => ((∃ j : Nat, j < n ∧ i = .int .i64 (j : Int) ∧ Hid (x / pw (j + 1) = y / pw (j + 1))) ∨ (i = .int .i64 (-1) ∧ Hid (x = y))) ∧ ∃ q, wr = w.drewN q) (fun i _ => (intOf i + 1).toNat)
    case atStart =>
      refine ⟨?_, 0, rfl⟩
      by_cases hl : 0 < n
      · exact .inl ⟨n - 1, by omega, by go_num, by rw [show n - 1 + 1 = n by omega]; exact cmp_start HLX.out HLY.out⟩
      · obtain rfl : n = 0 := by omega
        exact .inr ⟨rfl, by have h1 := HLX.out; have h2 := HLY.out; rw [pw_zero] at h1 h2; unfold Hid; omega⟩
    case round =>
      obtain ⟨hc, q, rfl⟩ := hrel
      rcases hc with ⟨j, hj, rfl, HE⟩ | ⟨rfl, HE⟩
      · obtain ⟨b1, o1, rfl, hx1⟩ := row_limb RA.out (k := j) (by rw [HN.out]; exact hj)
        obtain ⟨b2, o2, rfl, hx2⟩ := row_limb RB.out (k := j) (by rw [← HNY.out]; exact hj)
        have HL := Lib.hid (fun h => cmp_lt HE.out h)
        have HG := Lib.hid (fun h => cmp_lt HE.out.symm h)
        have HU := Lib.hid (fun h => cmp_up HE.out h)
        obtain ⟨dx, hdx⟩ : ∃ d, dig x j = d := ⟨_, rfl⟩
        obtain ⟨dy, hdy⟩ : ∃ d, dig y j = d := ⟨_, rfl⟩
        rw [hdx] at hx1 HL HG HU
        rw [hdy] at hx2 HL HG HU
        clear hdx hdy
        by_cases h1 : dx < dy
        · have HR := Lib.hid (cmpN_lt (HL.out h1))
          have h1i : (dx : Int) < (dy : Int) := by omega
          go_wp2
          go_region
          go_wp2
          go_ret
          exact ⟨by rw [HR.out]; rfl, below_drewN (Below.refl _ _) _⟩
        · by_cases h2 : dy < dx
          · have HR := Lib.hid (cmpN_gt (HG.out h2))
            go_wp2
            go_region
            go_wp2
            go_region
            go_wp2
            go_ret
            exact ⟨by rw [HR.out]; rfl, below_drewN (Below.refl _ _) _⟩
          · have HR := Lib.hid (HU.out (by omega))
            go_wp2
            go_region
            go_wp2
            go_region
            go_wp2
            go_roundw
            case rel =>
              refine ⟨?_, q + 2, rfl⟩
              by_cases hj0 : 0 < j
              · exact .inl ⟨j - 1, by omega, by go_num, by rw [show j - 1 + 1 = j by omega]; exact HR⟩
              · exact .inr ⟨by go_num, by have := HR.out; rw [show j = 0 by omega] at this; exact cmp_end this⟩
            case measure => simp [intOf]
      · have HR : Hid (cmpN x y = 0) := by unfold Hid; rw [HE.out]; exact cmpN_eq y
        go_wp2
        go_ret
        exact ⟨by rw [HR.out]; rfl, below_drewN (Below.refl _ _) _⟩
  · have hneq : ((nlen x : Int) != (nlen y : Int)) = true := by simp; omega
    by_cases h1 : nlen x < nlen y
    · have HR := Lib.hid (cmpN_lt (lt_of_nlen h1))
      clear hlen
      go_enter Try.func36, Try.ntmps36
      go_wp2
      go_ret
      exact ⟨by rw [HR.out]; rfl, Below.refl _ _⟩
    · have HR := Lib.hid (cmpN_gt (lt_of_nlen (show nlen y < nlen x by omega)))
      clear hlen
      go_enter Try.func36, Try.ntmps36
      go_wp2
      go_ret
      exact ⟨by rw [HR.out]; rfl, Below.refl _ _⟩

theorem sub_step {x y i : Nat} (hxy : y ≤ x) {l p q : Int} (hl : l = -comC 1 (-1) x y i) (hp : p = (dig x i : Int)) (hq : q = (dig y i : Int)) : (p - l - q) % 1000000000 = digF (x - y) i ∧ (p - l - q) / 1000000000 = comC 1 (-1) x y (i + 1) := by
  have h := com_step (m := 1) (n := -1) (x := x) (y := y) (T := x - y) (i := i) (by omega) (c := -l) (by omega) (p := p) (q := -q) (t := p - l - q) (by rw [hp]; omega) (by rw [hq]; omega) (by omega)
  exact h
set_option maxHeartbeats 1000000 in
theorem spec_sub (va vb : Value) (x y : Nat) (w : World) (ha : RowOf iV w va (limI x)) (hb : RowOf iV w vb (limI y)) (hxy : y ≤ x) (hx : nlen x ≤ 1000) (hy : nlen y ≤ 1000) :
    Calls Try.prog 43 #[va, vb] w fun e w' => ∃ v, e = .returned v ∧ OwnI w' w.heap.size v (limI (x - y)) ∧ Below w.heap.size w w' := by
  have RA := Lib.hid ha
  have RB := Lib.hid hb
  obtain ⟨aa, ca, rfl, h1, h2, h3⟩ := ha
  obtain ⟨ab, cb, rfl, h4, h5, h6⟩ := hb
  clear h1 h2 h3 h4 h5 h6
  rw [limI_length] at RA RB ⊢
  rw [limI_length]
  have HY := fun k => Lib.hid (fun h : nlen y ≤ k => dig_past h)
  have HS := Lib.hid (fun (i : Nat) (l p q : Int) hl hp hq => sub_step (i := i) (l := l) (p := p) (q := q) hxy hl hp hq)
  have HC := Lib.hid (fun i => comC_less x y i)
  have HT := Lib.hid (show nlen (x - y) ≤ nlen x from nlen_mono (Nat.sub_le _ _))
  obtain ⟨nx, hnx⟩ : ∃ nx, nlen x = nx := ⟨_, rfl⟩
  obtain ⟨ny, hny⟩ : ∃ ny, nlen y = ny := ⟨_, rfl⟩
  rw [hnx] at hx RA HT ⊢
  rw [hny] at hy RB HY ⊢
  have HNX := Lib.hid hnx
  have HNY := Lib.hid hny
  clear hnx hny hxy
  go_enter Try.func43, Try.ntmps43
  go_wp2
  go_loopw [5, 6, 12] (fun ov cv iv wr => ∃ (k : Nat) (l : Int), k ≤ nx ∧ iv = .int .i64 k ∧ cv = .int .i64 l ∧ 0 ≤ l ∧ l ≤ 1 ∧ Hid (l = -comC 1 (-1) x y k) ∧ Hid (OwnI wr w.heap.size ov (listF k (digF (x - y)))) ∧ Hid (Below w.heap.size w wr)) (fun _ _ iv _ => nx - (intOf iv).toNat)
  case atStart => exact ⟨0, 0, Nat.zero_le _, rfl, rfl, by omega, by omega, by unfold Hid; rw [comC_zero]; rfl, OwnI.lit0 w, (Below.refl _ w).alloc (Nat.le_refl _) _⟩
  case round =>
    obtain ⟨k, l, hk, rfl, rfl, hl0, hl1, HL, HO, HB⟩ := hrel
    obtain ⟨v, rfl⟩ : ∃ v, v = u5 := ⟨_, rfl⟩
    have hln : (listF k (digF (x - y))).length ≤ 1099511627776 := by rw [listF_length]; omega
    have hcs : ∀ o, w.heap.size ≤ (wr.alloc o).heap.size := fun o => by have := HB.out.size; simp; omega
    by_cases hlt : k < nx
    · obtain ⟨b1, o1, rfl, hx1⟩ := row_limb (rowOf_below RA.out HB.out) (k := k) (by rw [HNX.out]; exact hlt)
      have hdx := dig_lt x k
      have HS1 := Lib.hid (fun (p q : Int) hp hq => HS.out k l p q HL.out hp hq)
      have HC1 := Lib.hid (HC.out (k + 1))
      obtain ⟨dx, hdxe⟩ : ∃ dx, dig x k = dx := ⟨_, rfl⟩
      rw [hdxe] at hx1 hdx HS1
      clear hdxe
      by_cases h2 : k < ny
      · obtain ⟨b2, o2, rfl, hx2⟩ := row_limb (rowOf_below RB.out HB.out) (k := k) (by rw [HNY.out]; exact h2)
        have hdy := dig_lt y k
        obtain ⟨dy, hdye⟩ : ∃ dy, dig y k = dy := ⟨_, rfl⟩
        rw [hdye] at hx2 hdy HS1
        have HS2 := Lib.hid (HS1.out dx dy rfl rfl)
        clear hdye
        by_cases hneg : (dx : Int) - l - dy < 0
        · have HD : Hid ((dx : Int) - l - dy + 1000000000 = digF (x - y) k) := by unfold Hid; rw [← HS2.out.1]; omega
          have HN : Hid ((1 : Int) = -comC 1 (-1) x y (k + 1)) := by unfold Hid; rw [← HS2.out.2]; omega
          go_wp2_with (at_builtin; refine append_int rfl _ _ 22 Try.underlying22 rfl w.heap.size _ _ _ ⟨wr.heap.size, 0, none⟩ rfl (HO.out.alloc _) rfl (cell_one_new _ _ _) hln (hcs _) ?_; intro v' w1 h1 hg1)
          go_roundw
          case rel => exact ⟨k + 1, 1, by omega, by go_num, rfl, by omega, by omega, HN, by rw [HD.out] at h1; rw [listF_succ]; exact h1, (HB.out.alloc HB.out.size _).grown hg1 (hcs _) fun g hg => (HO.out.lt g hg).1⟩
          case measure => simp [intOf]; omega
        · have HD : Hid ((dx : Int) - l - dy = digF (x - y) k) := by unfold Hid; rw [← HS2.out.1]; omega
          have HN : Hid ((0 : Int) = -comC 1 (-1) x y (k + 1)) := by unfold Hid; rw [← HS2.out.2]; omega
          go_wp2_with (at_builtin; refine append_int rfl _ _ 22 Try.underlying22 rfl w.heap.size _ _ _ ⟨wr.heap.size, 0, none⟩ rfl (HO.out.alloc _) rfl (cell_one_new _ _ _) hln (hcs _) ?_; intro v' w1 h1 hg1)
          go_roundw
          case rel => exact ⟨k + 1, 0, by omega, by go_num, rfl, by omega, by omega, HN, by rw [HD.out] at h1; rw [listF_succ]; exact h1, (HB.out.alloc HB.out.size _).grown hg1 (hcs _) fun g hg => (HO.out.lt g hg).1⟩
          case measure => simp [intOf]; omega
      · have HS2 := Lib.hid (HS1.out dx 0 rfl (by rw [(HY k).out (by omega)]; rfl))
        rw [Int.sub_zero] at HS2
        by_cases hneg : (dx : Int) - l < 0
        · have HD : Hid ((dx : Int) - l + 1000000000 = digF (x - y) k) := by unfold Hid; rw [← HS2.out.1]; omega
          have HN : Hid ((1 : Int) = -comC 1 (-1) x y (k + 1)) := by unfold Hid; rw [← HS2.out.2]; omega
          go_wp2_with (at_builtin; refine append_int rfl _ _ 22 Try.underlying22 rfl w.heap.size _ _ _ ⟨wr.heap.size, 0, none⟩ rfl (HO.out.alloc _) rfl (cell_one_new _ _ _) hln (hcs _) ?_; intro v' w1 h1 hg1)
          go_roundw
          case rel => exact ⟨k + 1, 1, by omega, by go_num, rfl, by omega, by omega, HN, by rw [HD.out] at h1; rw [listF_succ]; exact h1, (HB.out.alloc HB.out.size _).grown hg1 (hcs _) fun g hg => (HO.out.lt g hg).1⟩
          case measure => simp [intOf]; omega
        · have HD : Hid ((dx : Int) - l = digF (x - y) k) := by unfold Hid; rw [← HS2.out.1]; omega
          have HN : Hid ((0 : Int) = -comC 1 (-1) x y (k + 1)) := by unfold Hid; rw [← HS2.out.2]; omega
          go_wp2_with (at_builtin; refine append_int rfl _ _ 22 Try.underlying22 rfl w.heap.size _ _ _ ⟨wr.heap.size, 0, none⟩ rfl (HO.out.alloc _) rfl (cell_one_new _ _ _) hln (hcs _) ?_; intro v' w1 h1 hg1)
          go_roundw
          case rel => exact ⟨k + 1, 0, by omega, by go_num, rfl, by omega, by omega, HN, by rw [HD.out] at h1; rw [listF_succ]; exact h1, (HB.out.alloc HB.out.size _).grown hg1 (hcs _) fun g hg => (HO.out.lt g hg).1⟩
          case measure => simp [intOf]; omega
    · obtain rfl : k = nx := by omega
      have HT1 := Lib.hid (spec_trim v (x - y) k w.heap.size wr HO.out HT.out)
      go_wp2_with fail
      refine HT1.out.mono ?_
      rintro e w2 ⟨v', rfl, o, rfl⟩
      have O := Lib.hid o
      clear o
      go_wp2
      go_ret
      exact ⟨_, rfl, O.out, HB.out⟩

def natCmpI (zs0 zs1 : List Int) : Int := if okB zs0 && okB zs1 then cmpN (natI zs0) (natI zs1) else 0
theorem natCmpI_yes {x y : Nat} (hx : x < pw 60) (hy : y < pw 60) : natCmpI (limI x) (limI y) = cmpN x y := by unfold natCmpI; rw [okB_limI hx, okB_limI hy, natI_limI, natI_limI]; rfl
theorem natCmpI_no {zs0 zs1 : List Int} (h : okB zs0 = false ∨ okB zs1 = false) : natCmpI zs0 zs1 = 0 := by
  unfold natCmpI; rcases h with h | h <;> rw [h] <;> simp

set_option maxHeartbeats 400000 in
theorem spec_natCmp (va : Value) (zs0 : List Int) (vb : Value) (zs1 : List Int) (w : World) (ha : RowOf iV w va zs0) (hb : RowOf iV w vb zs1) :
    Calls Try.prog 22 #[va, vb] w fun e w' => e = .returned (.int .i64 (natCmpI zs0 zs1)) ∧ Below w.heap.size w w' := by
  have K0 := Lib.hid (spec_natOk va zs0 w ha)
  have K1 := Lib.hid (spec_natOk vb zs1 w hb)
  cases e0 : okB zs0 with
  | false =>
    have HE := Lib.hid (natCmpI_no (zs0 := zs0) (zs1 := zs1) (.inl e0))
    obtain ⟨aa, ca, rfl, h1, h2, h3⟩ := ha
    obtain ⟨ab, cb, rfl, h4, h5, h6⟩ := hb
    rw [e0] at K0
    clear e0 h1 h2 h3 h4 h5 h6
    go_enter Try.func22, Try.ntmps22
    go_wp2_with fail
    refine K0.out.mono ?_
    rintro e w1 ⟨rfl, rfl⟩
    go_wp2
    go_ret
    exact ⟨by rw [HE.out]; rfl, Below.refl _ _⟩
  | true =>
    cases e1 : okB zs1 with
    | false =>
      have HE := Lib.hid (natCmpI_no (zs0 := zs0) (zs1 := zs1) (.inr e1))
      obtain ⟨aa, ca, rfl, h1, h2, h3⟩ := ha
      obtain ⟨ab, cb, rfl, h4, h5, h6⟩ := hb
      rw [e0] at K0
      rw [e1] at K1
      clear e0 e1 h1 h2 h3 h4 h5 h6
      go_enter Try.func22, Try.ntmps22
      go_wp2_with fail
      refine K0.out.mono ?_
      rintro e w1 ⟨rfl, rfl⟩
      go_wp2_with fail
      refine K1.out.mono ?_
      rintro e w1 ⟨rfl, rfl⟩
      go_wp2
      go_ret
      exact ⟨by rw [HE.out]; rfl, Below.refl _ _⟩
    | true =>
      obtain ⟨x, rfl, hx⟩ := okB_cases e0
      obtain ⟨y, rfl, hy⟩ := okB_cases e1
      have HE := Lib.hid (natCmpI_yes (x := x) (y := y) hx hy)
      have H60x := Lib.hid ((nlen_le_iff _ _).2 hx)
      have H60y := Lib.hid ((nlen_le_iff _ _).2 hy)
      have hx1 : nlen x ≤ 1000 := by have := H60x.out; omega
      have hy1 : nlen y ≤ 1000 := by have := H60y.out; omega
      rw [e0] at K0
      rw [e1] at K1
      have RA := Lib.hid ha
      have RB := Lib.hid hb
      obtain ⟨aa, ca, rfl, h1, h2, h3⟩ := ha
      obtain ⟨ab, cb, rfl, h4, h5, h6⟩ := hb
      clear h1 h2 h3 h4 h5 h6 e0 e1 hx hy
      rw [limI_length] at RA K0 ⊢
      rw [limI_length] at RB K1
      try rw [limI_length]
      go_enter Try.func22, Try.ntmps22
      go_wp2_with fail
      refine K0.out.mono ?_
      rintro e w1 ⟨rfl, rfl⟩
      go_wp2_with fail
      refine K1.out.mono ?_
      rintro e w1 ⟨rfl, rfl⟩
      go_wp2_with fail
      refine (spec_cmp _ _ x y _ RA.out RB.out hx1 hy1).mono ?_
      rintro e w2 ⟨rfl, b⟩
      go_wp2
      go_ret
      exact ⟨by rw [HE.out]; rfl, b⟩

set_option maxHeartbeats 400000 in
theorem impl_natCmp (va : Value) (zs0 : List Int) (vb : Value) (zs1 : List Int) (w : World) (ha : RowOf iV w va zs0) (hb : RowOf iV w vb zs1) :
    Calls Try.prog 23 #[va, vb] w fun e w' => e = .returned (.int .i64 (natCmpI zs0 zs1)) ∧ Below w.heap.size w w' := by
  have K0 := Lib.hid (impl_natOk va zs0 w ha)
  have K1 := Lib.hid (impl_natOk vb zs1 w hb)
  cases e0 : okB zs0 with
  | false =>
    have HE := Lib.hid (natCmpI_no (zs0 := zs0) (zs1 := zs1) (.inl e0))
    obtain ⟨aa, ca, rfl, h1, h2, h3⟩ := ha
    obtain ⟨ab, cb, rfl, h4, h5, h6⟩ := hb
    rw [e0] at K0
    clear e0 h1 h2 h3 h4 h5 h6
    go_enter Try.func23, Try.ntmps23
    go_wp2_with fail
    refine K0.out.mono ?_
    rintro e w1 ⟨rfl, rfl⟩
    go_wp2
    go_ret
    exact ⟨by rw [HE.out]; rfl, Below.refl _ _⟩
  | true =>
    cases e1 : okB zs1 with
    | false =>
      have HE := Lib.hid (natCmpI_no (zs0 := zs0) (zs1 := zs1) (.inr e1))
      obtain ⟨aa, ca, rfl, h1, h2, h3⟩ := ha
      obtain ⟨ab, cb, rfl, h4, h5, h6⟩ := hb
      rw [e0] at K0
      rw [e1] at K1
      clear e0 e1 h1 h2 h3 h4 h5 h6
      go_enter Try.func23, Try.ntmps23
      go_wp2_with fail
      refine K0.out.mono ?_
      rintro e w1 ⟨rfl, rfl⟩
      go_wp2_with fail
      refine K1.out.mono ?_
      rintro e w1 ⟨rfl, rfl⟩
      go_wp2
      go_ret
      exact ⟨by rw [HE.out]; rfl, Below.refl _ _⟩
    | true =>
      obtain ⟨x, rfl, hx⟩ := okB_cases e0
      obtain ⟨y, rfl, hy⟩ := okB_cases e1
      have HE := Lib.hid (natCmpI_yes (x := x) (y := y) hx hy)
      have H60x := Lib.hid ((nlen_le_iff _ _).2 hx)
      have H60y := Lib.hid ((nlen_le_iff _ _).2 hy)
      have hx1 : nlen x ≤ 1000 := by have := H60x.out; omega
      have hy1 : nlen y ≤ 1000 := by have := H60y.out; omega
      rw [e0] at K0
      rw [e1] at K1
      have RA := Lib.hid ha
      have RB := Lib.hid hb
      obtain ⟨aa, ca, rfl, h1, h2, h3⟩ := ha
      obtain ⟨ab, cb, rfl, h4, h5, h6⟩ := hb
      clear h1 h2 h3 h4 h5 h6 e0 e1 hx hy
      rw [limI_length] at RA K0 ⊢
      rw [limI_length] at RB K1
      try rw [limI_length]
      go_enter Try.func23, Try.ntmps23
      go_wp2_with fail
      refine K0.out.mono ?_
      rintro e w1 ⟨rfl, rfl⟩
      go_wp2_with fail
      refine K1.out.mono ?_
      rintro e w1 ⟨rfl, rfl⟩
      go_wp2_with fail
      refine (impl_compare _ _ x y _ RA.out RB.out hx1 hy1).mono ?_
      rintro e w2 ⟨rfl, b⟩
      go_wp2
      go_ret
      exact ⟨by rw [HE.out]; rfl, b⟩

def natSubL (zs0 zs1 : List Int) : List Int := if okB zs0 && okB zs1 then (if natI zs1 ≤ natI zs0 then limI (natI zs0 - natI zs1) else []) else []
theorem natSubL_len (zs0 zs1 : List Int) : (natSubL zs0 zs1).length ≤ 1000 := by
  unfold natSubL
  split
  · rename_i h
    split
    · rw [Bool.and_eq_true] at h
      have h1 := (okB_lim h.1).2
      rw [limI_length, nlen_le_iff]
      exact Nat.lt_of_le_of_lt (Nat.sub_le _ _) (Nat.lt_of_lt_of_le h1 (pw_mono (by omega)))
    · simp
  · simp
def subL (x y : Nat) : List Int := if y ≤ x then limI (x - y) else []
theorem natSubL_yes {x y : Nat} (hx : x < pw 60) (hy : y < pw 60) : natSubL (limI x) (limI y) = subL x y := by unfold natSubL subL; rw [okB_limI hx, okB_limI hy, natI_limI, natI_limI]; rfl
theorem natSubL_no {zs0 zs1 : List Int} (h : okB zs0 = false ∨ okB zs1 = false) : natSubL zs0 zs1 = [] := by
  unfold natSubL; rcases h with h | h <;> rw [h] <;> simp

set_option maxHeartbeats 400000 in
theorem spec_natSub (va : Value) (zs0 : List Int) (vb : Value) (zs1 : List Int) (w : World) (ha : RowOf iV w va zs0) (hb : RowOf iV w vb zs1) :
    Calls Try.prog 26 #[va, vb] w fun e w' => ∃ v, e = .returned v ∧ OwnI w' w.heap.size v (natSubL zs0 zs1) ∧ Below w.heap.size w w' := by
  have K0 := Lib.hid (spec_natOk va zs0 w ha)
  have K1 := Lib.hid (spec_natOk vb zs1 w hb)
  cases e0 : okB zs0 with
  | false =>
    have HE := Lib.hid (natSubL_no (zs0 := zs0) (zs1 := zs1) (.inl e0))
    obtain ⟨aa, ca, rfl, h1, h2, h3⟩ := ha
    obtain ⟨ab, cb, rfl, h4, h5, h6⟩ := hb
    rw [e0] at K0
    clear e0 h1 h2 h3 h4 h5 h6
    go_enter Try.func26, Try.ntmps26
    go_wp2_with fail
    refine K0.out.mono ?_
    rintro e w1 ⟨rfl, rfl⟩
    go_wp2
    go_ret
    exact ⟨_, rfl, by rw [HE.out]; exact OwnI.nil _ _, Below.refl _ _⟩
  | true =>
    cases e1 : okB zs1 with
    | false =>
      have HE := Lib.hid (natSubL_no (zs0 := zs0) (zs1 := zs1) (.inr e1))
      obtain ⟨aa, ca, rfl, h1, h2, h3⟩ := ha
      obtain ⟨ab, cb, rfl, h4, h5, h6⟩ := hb
      rw [e0] at K0
      rw [e1] at K1
      clear e0 e1 h1 h2 h3 h4 h5 h6
      go_enter Try.func26, Try.ntmps26
      go_wp2_with fail
      refine K0.out.mono ?_
      rintro e w1 ⟨rfl, rfl⟩
      go_wp2_with fail
      refine K1.out.mono ?_
      rintro e w1 ⟨rfl, rfl⟩
      go_wp2
      go_ret
      exact ⟨_, rfl, by rw [HE.out]; exact OwnI.nil _ _, Below.refl _ _⟩
    | true =>
      obtain ⟨x, rfl, hx⟩ := okB_cases e0
      obtain ⟨y, rfl, hy⟩ := okB_cases e1
      have HE := Lib.hid (natSubL_yes (x := x) (y := y) hx hy)
      have H60x := Lib.hid ((nlen_le_iff _ _).2 hx)
      have H60y := Lib.hid ((nlen_le_iff _ _).2 hy)
      have hx1 : nlen x ≤ 1000 := by have := H60x.out; omega
      have hy1 : nlen y ≤ 1000 := by have := H60y.out; omega
      rw [e0] at K0
      rw [e1] at K1
      have RA := Lib.hid ha
      have RB := Lib.hid hb
      obtain ⟨aa, ca, rfl, h1, h2, h3⟩ := ha
      obtain ⟨ab, cb, rfl, h4, h5, h6⟩ := hb
      clear h1 h2 h3 h4 h5 h6 e0 e1 hx hy
      rw [limI_length] at RA K0 ⊢
      rw [limI_length] at RB K1
      try rw [limI_length]
      go_enter Try.func26, Try.ntmps26
      go_wp2_with fail
      refine K0.out.mono ?_
      rintro e w1 ⟨rfl, rfl⟩
      go_wp2_with fail
      refine K1.out.mono ?_
      rintro e w1 ⟨rfl, rfl⟩
      have HC := Lib.hid (spec_cmp _ _ x y w1 RA.out RB.out hx1 hy1)
      by_cases hxy : y ≤ x
      · have HS : Hid (subL x y = limI (x - y)) := by unfold Hid subL; rw [if_pos hxy]
        have hc0 : 0 ≤ cmpN x y := by have := cmpN_neg x y; omega
        obtain ⟨c, hc⟩ : ∃ c, cmpN x y = c := ⟨_, rfl⟩
        rw [hc] at hc0 HC
        clear hc
        go_wp2_with fail
        refine HC.out.mono ?_
        rintro e w2 ⟨rfl, b⟩
        have RA1 := Lib.hid (rowOf_below RA.out b)
        have RB1 := Lib.hid (rowOf_below RB.out b)
        go_wp2_with fail
        refine (spec_sub _ _ x y _ RA1.out RB1.out hxy hx1 hy1).mono ?_
        rintro e w3 ⟨v, rfl, o, b3⟩
        have O := Lib.hid (o.base b.size)
        have B3 := Lib.hid (b.trans (b3.mono b.size))
        clear o b3 b
        go_wp2
        go_ret
        exact ⟨_, rfl, by rw [HE.out, HS.out]; exact O.out, B3.out⟩
      · have HS : Hid (subL x y = []) := by unfold Hid subL; rw [if_neg hxy]
        have hc0 : cmpN x y < 0 := by have := cmpN_neg x y; omega
        obtain ⟨c, hc⟩ : ∃ c, cmpN x y = c := ⟨_, rfl⟩
        rw [hc] at hc0 HC
        clear hc
        go_wp2_with fail
        refine HC.out.mono ?_
        rintro e w2 ⟨rfl, b⟩
        go_wp2
        go_ret
        exact ⟨_, rfl, by rw [HE.out, HS.out]; exact OwnI.nil _ _, b⟩

set_option maxHeartbeats 400000 in
theorem impl_natSub (va : Value) (zs0 : List Int) (vb : Value) (zs1 : List Int) (w : World) (ha : RowOf iV w va zs0) (hb : RowOf iV w vb zs1) :
    Calls Try.prog 27 #[va, vb] w fun e w' => ∃ v, e = .returned v ∧ OwnI w' w.heap.size v (natSubL zs0 zs1) ∧ Below w.heap.size w w' := by
  have K0 := Lib.hid (impl_natOk va zs0 w ha)
  have K1 := Lib.hid (impl_natOk vb zs1 w hb)
  cases e0 : okB zs0 with
  | false =>
    have HE := Lib.hid (natSubL_no (zs0 := zs0) (zs1 := zs1) (.inl e0))
    obtain ⟨aa, ca, rfl, h1, h2, h3⟩ := ha
    obtain ⟨ab, cb, rfl, h4, h5, h6⟩ := hb
    rw [e0] at K0
    clear e0 h1 h2 h3 h4 h5 h6
    go_enter Try.func27, Try.ntmps27
    go_wp2_with fail
    refine K0.out.mono ?_
    rintro e w1 ⟨rfl, rfl⟩
    go_wp2
    go_ret
    exact ⟨_, rfl, by rw [HE.out]; exact OwnI.nil _ _, Below.refl _ _⟩
  | true =>
    cases e1 : okB zs1 with
    | false =>
      have HE := Lib.hid (natSubL_no (zs0 := zs0) (zs1 := zs1) (.inr e1))
      obtain ⟨aa, ca, rfl, h1, h2, h3⟩ := ha
      obtain ⟨ab, cb, rfl, h4, h5, h6⟩ := hb
      rw [e0] at K0
      rw [e1] at K1
      clear e0 e1 h1 h2 h3 h4 h5 h6
      go_enter Try.func27, Try.ntmps27
      go_wp2_with fail
      refine K0.out.mono ?_
      rintro e w1 ⟨rfl, rfl⟩
      go_wp2_with fail
      refine K1.out.mono ?_
      rintro e w1 ⟨rfl, rfl⟩
      go_wp2
      go_ret
      exact ⟨_, rfl, by rw [HE.out]; exact OwnI.nil _ _, Below.refl _ _⟩
    | true =>
      obtain ⟨x, rfl, hx⟩ := okB_cases e0
      obtain ⟨y, rfl, hy⟩ := okB_cases e1
      have HE := Lib.hid (natSubL_yes (x := x) (y := y) hx hy)
      have H60x := Lib.hid ((nlen_le_iff _ _).2 hx)
      have H60y := Lib.hid ((nlen_le_iff _ _).2 hy)
      have hx1 : nlen x ≤ 1000 := by have := H60x.out; omega
      have hy1 : nlen y ≤ 1000 := by have := H60y.out; omega
      rw [e0] at K0
      rw [e1] at K1
      have RA := Lib.hid ha
      have RB := Lib.hid hb
      obtain ⟨aa, ca, rfl, h1, h2, h3⟩ := ha
      obtain ⟨ab, cb, rfl, h4, h5, h6⟩ := hb
      clear h1 h2 h3 h4 h5 h6 e0 e1 hx hy
      rw [limI_length] at RA K0 ⊢
      rw [limI_length] at RB K1
      try rw [limI_length]
      go_enter Try.func27, Try.ntmps27
      go_wp2_with fail
      refine K0.out.mono ?_
      rintro e w1 ⟨rfl, rfl⟩
      go_wp2_with fail
      refine K1.out.mono ?_
      rintro e w1 ⟨rfl, rfl⟩
      have HC := Lib.hid (impl_compare _ _ x y w1 RA.out RB.out hx1 hy1)
      by_cases hxy : y ≤ x
      · have HS : Hid (subL x y = limI (x - y)) := by unfold Hid subL; rw [if_pos hxy]
        have hc0 : 0 ≤ cmpN x y := by have := cmpN_neg x y; omega
        obtain ⟨c, hc⟩ : ∃ c, cmpN x y = c := ⟨_, rfl⟩
        rw [hc] at hc0 HC
        clear hc
        go_wp2_with fail
        refine HC.out.mono ?_
        rintro e w2 ⟨rfl, b⟩
        have RA1 := Lib.hid (rowOf_below RA.out b)
        have RB1 := Lib.hid (rowOf_below RB.out b)
        go_wp2_with fail
        refine (impl_minus _ _ x y _ RA1.out RB1.out hxy hx1 hy1).mono ?_
        rintro e w3 ⟨v, rfl, o, b3⟩
        have O := Lib.hid (o.base b.size)
        have B3 := Lib.hid (b.trans (b3.mono b.size))
        clear o b3 b
        go_wp2
        go_ret
        exact ⟨_, rfl, by rw [HE.out, HS.out]; exact O.out, B3.out⟩
      · have HS : Hid (subL x y = []) := by unfold Hid subL; rw [if_neg hxy]
        have hc0 : cmpN x y < 0 := by have := cmpN_neg x y; omega
        obtain ⟨c, hc⟩ : ∃ c, cmpN x y = c := ⟨_, rfl⟩
        rw [hc] at hc0 HC
        clear hc
        go_wp2_with fail
        refine HC.out.mono ?_
        rintro e w2 ⟨rfl, b⟩
        go_wp2
        go_ret
        exact ⟨_, rfl, by rw [HE.out, HS.out]; exact OwnI.nil _ _, b⟩

set_option maxHeartbeats 2000000 in
theorem law_natCmp (W : World) (v0 : Value) (zs0 : List Int) (h0 : RowOf iV W v0 zs0) (_ : True) (v1 : Value) (zs1 : List Int) (h1 : RowOf iV W v1 zs1) (_ : True) :
    Calls Try.prog 6 #[v0, v1] W fun e w' => e = .returned (.bool true) ∧ Below W.heap.size W w' := by
  have R0 := Lib.hid h0
  obtain ⟨a0, c0, rfl, hc0, hm0, hr0⟩ := h0
  clear hr0
  unfold maxLen at hm0
  obtain ⟨m0, hm0'⟩ : ∃ n, zs0.length = n := ⟨_, rfl⟩
  rw [hm0'] at hc0 R0 ⊢
  have N0 := Lib.hid hm0'
  clear hm0'
  have R1 := Lib.hid h1
  obtain ⟨a1, c1, rfl, hc1, hm1, hr1⟩ := h1
  clear hr1
  unfold maxLen at hm1
  obtain ⟨m1, hm1'⟩ : ∃ n, zs1.length = n := ⟨_, rfl⟩
  rw [hm1'] at hc1 R1 ⊢
  have N1 := Lib.hid hm1'
  clear hm1'
  by_cases hl0 : m0 ≤ 1048576
  rotate_left
  · go_enter Try.func6, Try.ntmps6
    go_wp2
    go_ret
    exact ⟨rfl, Below.refl _ _⟩
  by_cases hl1 : m1 ≤ 1048576
  rotate_left
  · go_enter Try.func6, Try.ntmps6
    go_wp2
    go_ret
    exact ⟨rfl, Below.refl _ _⟩
  go_enter Try.func6, Try.ntmps6
  go_wp2_with fail
  refine (to_ints _ zs0 _ R0.out (by rw [N0.out]; omega)).mono ?_
  rintro e w1 ⟨v_t1, rfl, o_t1, b1⟩
  have z1 := Lib.hid b1.size
  have B := Lib.hid b1
  have O_t1 := Lib.hid o_t1
  have L_t1 := Lib.hid o_t1.lt
  clear o_t1
  clear b1
  go_wp2_with fail
  refine (to_ints _ zs1 _ (rowOf_below R1.out B.out) (by rw [N1.out]; omega)).mono ?_
  rintro e w2 ⟨v_t2, rfl, o_t2, b2⟩
  have z2 := Lib.hid b2.size
  replace O_t1 := Lib.hid (O_t1.out.below b2)
  replace B := Lib.hid (B.out.trans (b2.mono B.out.size))
  have O_t2 := Lib.hid o_t2
  have L_t2 := Lib.hid o_t2.lt
  clear o_t2
  clear b2
  go_wp2_with fail
  refine (spec_natCmp _ zs0 _ zs1 _  O_t1.out.row O_t2.out.row).mono ?_
  rintro e w3 ⟨rfl, b3⟩
  have z3 := Lib.hid b3.size
  replace O_t1 := Lib.hid (O_t1.out.below b3)
  replace O_t2 := Lib.hid (O_t2.out.below b3)
  replace B := Lib.hid (B.out.trans (b3.mono B.out.size))
  clear b3
  clear O_t1 L_t1
  clear O_t2 L_t2
  go_wp2_with fail
  refine (to_ints _ zs0 _ (rowOf_below R0.out B.out) (by rw [N0.out]; omega)).mono ?_
  rintro e w4 ⟨v_t3, rfl, o_t3, b4⟩
  have z4 := Lib.hid b4.size
  replace B := Lib.hid (B.out.trans (b4.mono B.out.size))
  have O_t3 := Lib.hid o_t3
  have L_t3 := Lib.hid o_t3.lt
  clear o_t3
  clear b4
  go_wp2_with fail
  refine (to_ints _ zs1 _ (rowOf_below R1.out B.out) (by rw [N1.out]; omega)).mono ?_
  rintro e w5 ⟨v_t4, rfl, o_t4, b5⟩
  have z5 := Lib.hid b5.size
  replace O_t3 := Lib.hid (O_t3.out.below b5)
  replace B := Lib.hid (B.out.trans (b5.mono B.out.size))
  have O_t4 := Lib.hid o_t4
  have L_t4 := Lib.hid o_t4.lt
  clear o_t4
  clear b5
  go_wp2_with fail
  refine (impl_natCmp _ zs0 _ zs1 _  O_t3.out.row O_t4.out.row).mono ?_
  rintro e w6 ⟨rfl, b6⟩
  have z6 := Lib.hid b6.size
  replace O_t3 := Lib.hid (O_t3.out.below b6)
  replace O_t4 := Lib.hid (O_t4.out.below b6)
  replace B := Lib.hid (B.out.trans (b6.mono B.out.size))
  clear b6
  go_wp2_with fail
  refine (to_ints _ zs0 _ (rowOf_below R0.out B.out) (by rw [N0.out]; omega)).mono ?_
  rintro e w7 ⟨v_t5, rfl, o_t5, b7⟩
  have z7 := Lib.hid b7.size
  replace O_t3 := Lib.hid (O_t3.out.below b7)
  replace O_t4 := Lib.hid (O_t4.out.below b7)
  replace B := Lib.hid (B.out.trans (b7.mono B.out.size))
  have O_t5 := Lib.hid o_t5
  have L_t5 := Lib.hid o_t5.lt
  clear o_t5
  clear b7
  go_wp2_with fail
  refine (eq_intsB _ _ _ _ O_t3.out.row O_t5.out.row).mono ?_
  rintro e w8 ⟨rfl, b8⟩
  have z8 := Lib.hid b8.size
  replace O_t3 := Lib.hid (O_t3.out.below b8)
  replace O_t4 := Lib.hid (O_t4.out.below b8)
  replace O_t5 := Lib.hid (O_t5.out.below b8)
  replace B := Lib.hid (B.out.trans (b8.mono B.out.size))
  clear b8
  clear O_t5 L_t5
  go_wp2_with fail
  refine (to_ints _ zs1 _ (rowOf_below R1.out B.out) (by rw [N1.out]; omega)).mono ?_
  rintro e w9 ⟨v_t6, rfl, o_t6, b9⟩
  have z9 := Lib.hid b9.size
  replace O_t3 := Lib.hid (O_t3.out.below b9)
  replace O_t4 := Lib.hid (O_t4.out.below b9)
  replace B := Lib.hid (B.out.trans (b9.mono B.out.size))
  have O_t6 := Lib.hid o_t6
  have L_t6 := Lib.hid o_t6.lt
  clear o_t6
  clear b9
  go_wp2_with fail
  refine (eq_intsB _ _ _ _ O_t4.out.row O_t6.out.row).mono ?_
  rintro e w10 ⟨rfl, b10⟩
  have z10 := Lib.hid b10.size
  replace O_t3 := Lib.hid (O_t3.out.below b10)
  replace O_t4 := Lib.hid (O_t4.out.below b10)
  replace O_t6 := Lib.hid (O_t6.out.below b10)
  replace B := Lib.hid (B.out.trans (b10.mono B.out.size))
  clear b10
  clear O_t6 L_t6
  go_wp2
  go_ret
  exact ⟨rfl, B.out⟩


set_option maxHeartbeats 2000000 in
theorem law_natSub (W : World) (v0 : Value) (zs0 : List Int) (h0 : RowOf iV W v0 zs0) (_ : True) (v1 : Value) (zs1 : List Int) (h1 : RowOf iV W v1 zs1) (_ : True) :
    Calls Try.prog 8 #[v0, v1] W fun e w' => e = .returned (.bool true) ∧ Below W.heap.size W w' := by
  have R0 := Lib.hid h0
  obtain ⟨a0, c0, rfl, hc0, hm0, hr0⟩ := h0
  clear hr0
  unfold maxLen at hm0
  obtain ⟨m0, hm0'⟩ : ∃ n, zs0.length = n := ⟨_, rfl⟩
  rw [hm0'] at hc0 R0 ⊢
  have N0 := Lib.hid hm0'
  clear hm0'
  have R1 := Lib.hid h1
  obtain ⟨a1, c1, rfl, hc1, hm1, hr1⟩ := h1
  clear hr1
  unfold maxLen at hm1
  obtain ⟨m1, hm1'⟩ : ∃ n, zs1.length = n := ⟨_, rfl⟩
  rw [hm1'] at hc1 R1 ⊢
  have N1 := Lib.hid hm1'
  clear hm1'
  by_cases hl0 : m0 ≤ 1048576
  rotate_left
  · go_enter Try.func8, Try.ntmps8
    go_wp2
    go_ret
    exact ⟨rfl, Below.refl _ _⟩
  by_cases hl1 : m1 ≤ 1048576
  rotate_left
  · go_enter Try.func8, Try.ntmps8
    go_wp2
    go_ret
    exact ⟨rfl, Below.refl _ _⟩
  go_enter Try.func8, Try.ntmps8
  go_wp2_with fail
  refine (to_ints _ zs0 _ R0.out (by rw [N0.out]; omega)).mono ?_
  rintro e w1 ⟨v_t1, rfl, o_t1, b1⟩
  have z1 := Lib.hid b1.size
  have B := Lib.hid b1
  have O_t1 := Lib.hid o_t1
  have L_t1 := Lib.hid o_t1.lt
  clear o_t1
  clear b1
  go_wp2_with fail
  refine (to_ints _ zs1 _ (rowOf_below R1.out B.out) (by rw [N1.out]; omega)).mono ?_
  rintro e w2 ⟨v_t2, rfl, o_t2, b2⟩
  have z2 := Lib.hid b2.size
  replace O_t1 := Lib.hid (O_t1.out.below b2)
  replace B := Lib.hid (B.out.trans (b2.mono B.out.size))
  have O_t2 := Lib.hid o_t2
  have L_t2 := Lib.hid o_t2.lt
  clear o_t2
  clear b2
  go_wp2_with fail
  refine (spec_natSub _ zs0 _ zs1 _  O_t1.out.row O_t2.out.row).mono ?_
  rintro e w3 ⟨v_w_0, rfl, o_w_0, b3⟩
  have z3 := Lib.hid b3.size
  replace O_t1 := Lib.hid (O_t1.out.below b3)
  replace O_t2 := Lib.hid (O_t2.out.below b3)
  replace B := Lib.hid (B.out.trans (b3.mono B.out.size))
  have O_w_0 := Lib.hid o_w_0
  have L_w_0 := Lib.hid o_w_0.lt
  clear o_w_0
  clear b3
  clear O_t1 L_t1
  clear O_t2 L_t2
  go_wp2_with fail
  refine (to_ints _ zs0 _ (rowOf_below R0.out B.out) (by rw [N0.out]; omega)).mono ?_
  rintro e w4 ⟨v_t3, rfl, o_t3, b4⟩
  have z4 := Lib.hid b4.size
  replace O_w_0 := Lib.hid (O_w_0.out.below b4)
  replace B := Lib.hid (B.out.trans (b4.mono B.out.size))
  have O_t3 := Lib.hid o_t3
  have L_t3 := Lib.hid o_t3.lt
  clear o_t3
  clear b4
  go_wp2_with fail
  refine (to_ints _ zs1 _ (rowOf_below R1.out B.out) (by rw [N1.out]; omega)).mono ?_
  rintro e w5 ⟨v_t4, rfl, o_t4, b5⟩
  have z5 := Lib.hid b5.size
  replace O_w_0 := Lib.hid (O_w_0.out.below b5)
  replace O_t3 := Lib.hid (O_t3.out.below b5)
  replace B := Lib.hid (B.out.trans (b5.mono B.out.size))
  have O_t4 := Lib.hid o_t4
  have L_t4 := Lib.hid o_t4.lt
  clear o_t4
  clear b5
  go_wp2_with fail
  refine (impl_natSub _ zs0 _ zs1 _  O_t3.out.row O_t4.out.row).mono ?_
  rintro e w6 ⟨v_g_0, rfl, o_g_0, b6⟩
  have z6 := Lib.hid b6.size
  replace O_w_0 := Lib.hid (O_w_0.out.below b6)
  replace O_t3 := Lib.hid (O_t3.out.below b6)
  replace O_t4 := Lib.hid (O_t4.out.below b6)
  replace B := Lib.hid (B.out.trans (b6.mono B.out.size))
  have O_g_0 := Lib.hid o_g_0
  have L_g_0 := Lib.hid o_g_0.lt
  clear o_g_0
  clear b6
  go_wp2_with fail
  refine (eq_intsB _ _ _ _ O_g_0.out.row O_w_0.out.row).mono ?_
  rintro e w7 ⟨rfl, b7⟩
  have z7 := Lib.hid b7.size
  replace O_w_0 := Lib.hid (O_w_0.out.below b7)
  replace O_t3 := Lib.hid (O_t3.out.below b7)
  replace O_t4 := Lib.hid (O_t4.out.below b7)
  replace O_g_0 := Lib.hid (O_g_0.out.below b7)
  replace B := Lib.hid (B.out.trans (b7.mono B.out.size))
  clear b7
  go_wp2_with fail
  refine (to_ints _ zs0 _ (rowOf_below R0.out B.out) (by rw [N0.out]; omega)).mono ?_
  rintro e w8 ⟨v_t5, rfl, o_t5, b8⟩
  have z8 := Lib.hid b8.size
  replace O_w_0 := Lib.hid (O_w_0.out.below b8)
  replace O_t3 := Lib.hid (O_t3.out.below b8)
  replace O_t4 := Lib.hid (O_t4.out.below b8)
  replace O_g_0 := Lib.hid (O_g_0.out.below b8)
  replace B := Lib.hid (B.out.trans (b8.mono B.out.size))
  have O_t5 := Lib.hid o_t5
  have L_t5 := Lib.hid o_t5.lt
  clear o_t5
  clear b8
  go_wp2_with fail
  refine (eq_intsB _ _ _ _ O_t3.out.row O_t5.out.row).mono ?_
  rintro e w9 ⟨rfl, b9⟩
  have z9 := Lib.hid b9.size
  replace O_w_0 := Lib.hid (O_w_0.out.below b9)
  replace O_t3 := Lib.hid (O_t3.out.below b9)
  replace O_t4 := Lib.hid (O_t4.out.below b9)
  replace O_g_0 := Lib.hid (O_g_0.out.below b9)
  replace O_t5 := Lib.hid (O_t5.out.below b9)
  replace B := Lib.hid (B.out.trans (b9.mono B.out.size))
  clear b9
  clear O_t5 L_t5
  go_wp2_with fail
  refine (to_ints _ zs1 _ (rowOf_below R1.out B.out) (by rw [N1.out]; omega)).mono ?_
  rintro e w10 ⟨v_t6, rfl, o_t6, b10⟩
  have z10 := Lib.hid b10.size
  replace O_w_0 := Lib.hid (O_w_0.out.below b10)
  replace O_t3 := Lib.hid (O_t3.out.below b10)
  replace O_t4 := Lib.hid (O_t4.out.below b10)
  replace O_g_0 := Lib.hid (O_g_0.out.below b10)
  replace B := Lib.hid (B.out.trans (b10.mono B.out.size))
  have O_t6 := Lib.hid o_t6
  have L_t6 := Lib.hid o_t6.lt
  clear o_t6
  clear b10
  go_wp2_with fail
  refine (eq_intsB _ _ _ _ O_t4.out.row O_t6.out.row).mono ?_
  rintro e w11 ⟨rfl, b11⟩
  have z11 := Lib.hid b11.size
  replace O_w_0 := Lib.hid (O_w_0.out.below b11)
  replace O_t3 := Lib.hid (O_t3.out.below b11)
  replace O_t4 := Lib.hid (O_t4.out.below b11)
  replace O_g_0 := Lib.hid (O_g_0.out.below b11)
  replace O_t6 := Lib.hid (O_t6.out.below b11)
  replace B := Lib.hid (B.out.trans (b11.mono B.out.size))
  clear b11
  clear O_t6 L_t6
  go_wp2_with fail
  refine (mark_ints _ (1) _ _ _ _ (by simp) O_t3.out (by rw [N0.out]; omega)).mono ?_
  rintro e w12 ⟨rfl, o12, b12⟩
  have z12 := Lib.hid (grownBy_size b12)
  replace O_w_0 := Lib.hid (O_w_0.out.other b12 (fun g g' e1 e2 => by have := L_w_0.out g e1; have := L_t3.out g' e2; have := z1.out; have := z2.out; have := z3.out; have := z4.out; have := z5.out; have := z6.out; have := z7.out; have := z8.out; have := z9.out; have := z10.out; have := z11.out; omega))
  replace O_t3 := Lib.hid o12
  replace O_t4 := Lib.hid (O_t4.out.other b12 (fun g g' e1 e2 => by have := L_t4.out g e1; have := L_t3.out g' e2; have := z1.out; have := z2.out; have := z3.out; have := z4.out; have := z5.out; have := z6.out; have := z7.out; have := z8.out; have := z9.out; have := z10.out; have := z11.out; omega))
  replace O_g_0 := Lib.hid (O_g_0.out.other b12 (fun g g' e1 e2 => by have := L_g_0.out g e1; have := L_t3.out g' e2; have := z1.out; have := z2.out; have := z3.out; have := z4.out; have := z5.out; have := z6.out; have := z7.out; have := z8.out; have := z9.out; have := z10.out; have := z11.out; omega))
  replace B := Lib.hid (Below.grown B.out b12 B.out.size (fun g hg => by have := L_t3.out g hg; have := z1.out; have := z2.out; have := z3.out; have := z4.out; have := z5.out; have := z6.out; have := z7.out; have := z8.out; have := z9.out; have := z10.out; have := z11.out; have := B.out.size; omega))
  clear o12
  clear b12
  rw [N0.out]
  go_wp2_with fail
  refine (mark_ints _ (1 + m0) _ _ _ _ (by simp) O_t4.out (by rw [N1.out]; omega)).mono ?_
  rintro e w13 ⟨rfl, o13, b13⟩
  have z13 := Lib.hid (grownBy_size b13)
  replace O_w_0 := Lib.hid (O_w_0.out.other b13 (fun g g' e1 e2 => by have := L_w_0.out g e1; have := L_t4.out g' e2; have := z1.out; have := z2.out; have := z3.out; have := z4.out; have := z5.out; have := z6.out; have := z7.out; have := z8.out; have := z9.out; have := z10.out; have := z11.out; have := z12.out; omega))
  replace O_t3 := Lib.hid (O_t3.out.other b13 (fun g g' e1 e2 => by have := L_t3.out g e1; have := L_t4.out g' e2; have := z1.out; have := z2.out; have := z3.out; have := z4.out; have := z5.out; have := z6.out; have := z7.out; have := z8.out; have := z9.out; have := z10.out; have := z11.out; have := z12.out; omega))
  replace O_t4 := Lib.hid o13
  replace O_g_0 := Lib.hid (O_g_0.out.other b13 (fun g g' e1 e2 => by have := L_g_0.out g e1; have := L_t4.out g' e2; have := z1.out; have := z2.out; have := z3.out; have := z4.out; have := z5.out; have := z6.out; have := z7.out; have := z8.out; have := z9.out; have := z10.out; have := z11.out; have := z12.out; omega))
  replace B := Lib.hid (Below.grown B.out b13 B.out.size (fun g hg => by have := L_t4.out g hg; have := z1.out; have := z2.out; have := z3.out; have := z4.out; have := z5.out; have := z6.out; have := z7.out; have := z8.out; have := z9.out; have := z10.out; have := z11.out; have := z12.out; have := B.out.size; omega))
  clear o13
  clear b13
  rw [N1.out]
  clear O_t3 L_t3
  clear O_t4 L_t4
  go_wp2_with fail
  refine (eq_intsB _ _ _ _ O_g_0.out.row O_w_0.out.row).mono ?_
  rintro e w14 ⟨rfl, b14⟩
  have z14 := Lib.hid b14.size
  replace O_w_0 := Lib.hid (O_w_0.out.below b14)
  replace O_g_0 := Lib.hid (O_g_0.out.below b14)
  replace B := Lib.hid (B.out.trans (b14.mono B.out.size))
  clear b14
  have hl_0 := Lib.hid (natSubL_len zs0 zs1)
  obtain ⟨q0, hq0⟩ : ∃ n, (natSubL zs0 zs1).length = n := ⟨_, rfl⟩
  have Q0 := Lib.hid hq0
  rw [hq0] at hl_0
  clear hq0
  go_wp2_with fail
  refine (mark_ints _ (1) _ _ _ _ (by simp) O_g_0.out (by rw [Q0.out]; have := hl_0.out; omega)).mono ?_
  rintro e w15 ⟨rfl, o15, b15⟩
  have z15 := Lib.hid (grownBy_size b15)
  replace O_w_0 := Lib.hid (O_w_0.out.other b15 (fun g g' e1 e2 => by have := L_w_0.out g e1; have := L_g_0.out g' e2; have := z1.out; have := z2.out; have := z3.out; have := z4.out; have := z5.out; have := z6.out; have := z7.out; have := z8.out; have := z9.out; have := z10.out; have := z11.out; have := z12.out; have := z13.out; have := z14.out; omega))
  replace O_g_0 := Lib.hid o15
  replace B := Lib.hid (Below.grown B.out b15 B.out.size (fun g hg => by have := L_g_0.out g hg; have := z1.out; have := z2.out; have := z3.out; have := z4.out; have := z5.out; have := z6.out; have := z7.out; have := z8.out; have := z9.out; have := z10.out; have := z11.out; have := z12.out; have := z13.out; have := z14.out; have := B.out.size; omega))
  clear o15
  clear b15
  rw [Q0.out] at O_g_0 ⊢
  go_wp2_with fail
  refine (held_intsB _ q0 (1) _ _ (by simp) O_g_0.out.row (by have := hl_0.out; omega)).mono ?_
  rintro e w16 ⟨rfl, b16⟩
  have z16 := Lib.hid b16.size
  replace O_w_0 := Lib.hid (O_w_0.out.below b16)
  replace O_g_0 := Lib.hid (O_g_0.out.below b16)
  replace B := Lib.hid (B.out.trans (b16.mono B.out.size))
  clear b16
  go_wp2_with fail
  refine (to_ints _ zs0 _ (rowOf_below R0.out B.out) (by rw [N0.out]; omega)).mono ?_
  rintro e w17 ⟨v_t7, rfl, o_t7, b17⟩
  have z17 := Lib.hid b17.size
  replace O_w_0 := Lib.hid (O_w_0.out.below b17)
  replace O_g_0 := Lib.hid (O_g_0.out.below b17)
  replace B := Lib.hid (B.out.trans (b17.mono B.out.size))
  have O_t7 := Lib.hid o_t7
  have L_t7 := Lib.hid o_t7.lt
  clear o_t7
  clear b17
  go_wp2_with fail
  refine (to_ints _ zs1 _ (rowOf_below R1.out B.out) (by rw [N1.out]; omega)).mono ?_
  rintro e w18 ⟨v_t8, rfl, o_t8, b18⟩
  have z18 := Lib.hid b18.size
  replace O_w_0 := Lib.hid (O_w_0.out.below b18)
  replace O_g_0 := Lib.hid (O_g_0.out.below b18)
  replace O_t7 := Lib.hid (O_t7.out.below b18)
  replace B := Lib.hid (B.out.trans (b18.mono B.out.size))
  have O_t8 := Lib.hid o_t8
  have L_t8 := Lib.hid o_t8.lt
  clear o_t8
  clear b18
  go_wp2_with fail
  refine (impl_natSub _ zs0 _ zs1 _  O_t7.out.row O_t8.out.row).mono ?_
  rintro e w19 ⟨v_h_0, rfl, o_h_0, b19⟩
  have z19 := Lib.hid b19.size
  replace O_w_0 := Lib.hid (O_w_0.out.below b19)
  replace O_g_0 := Lib.hid (O_g_0.out.below b19)
  replace O_t7 := Lib.hid (O_t7.out.below b19)
  replace O_t8 := Lib.hid (O_t8.out.below b19)
  replace B := Lib.hid (B.out.trans (b19.mono B.out.size))
  have O_h_0 := Lib.hid o_h_0
  have L_h_0 := Lib.hid o_h_0.lt
  clear o_h_0
  clear b19
  clear O_t7 L_t7
  clear O_t8 L_t8
  go_wp2_with fail
  refine (eq_intsB _ _ _ _ O_h_0.out.row O_w_0.out.row).mono ?_
  rintro e w20 ⟨rfl, b20⟩
  have z20 := Lib.hid b20.size
  replace O_w_0 := Lib.hid (O_w_0.out.below b20)
  replace O_g_0 := Lib.hid (O_g_0.out.below b20)
  replace O_h_0 := Lib.hid (O_h_0.out.below b20)
  replace B := Lib.hid (B.out.trans (b20.mono B.out.size))
  clear b20
  go_wp2_with fail
  refine (held_intsB _ q0 (1) _ _ (by simp) O_g_0.out.row (by have := hl_0.out; omega)).mono ?_
  rintro e w21 ⟨rfl, b21⟩
  have z21 := Lib.hid b21.size
  replace O_w_0 := Lib.hid (O_w_0.out.below b21)
  replace O_g_0 := Lib.hid (O_g_0.out.below b21)
  replace O_h_0 := Lib.hid (O_h_0.out.below b21)
  replace B := Lib.hid (B.out.trans (b21.mono B.out.size))
  clear b21
  go_wp2
  go_ret
  exact ⟨rfl, B.out⟩


end Go.Proofs.Ythddmilompcfaaa
