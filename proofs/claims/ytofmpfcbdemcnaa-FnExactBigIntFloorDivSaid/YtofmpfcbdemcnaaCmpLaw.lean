/- Comparing and subtracting in the model; the exact laws of NatCmp, NatSub and NatToInt. -/
import Derived.Test.YtofmpfcbdemcnaaCompare
import Derived.Test.YtofmpfcbdemcnaaSpecAdd
namespace Go.Proofs.Ytofmpfcbdemcnaa
open Go.RowKit

set_option maxHeartbeats 1000000 in
theorem spec_cmp (va vb : Value) (x y : Nat) (w : World) (ha : RowOf iV w va (limI x)) (hb : RowOf iV w vb (limI y)) (hx : nlen x ≤ 1000) (hy : nlen y ≤ 1000) :
    Calls Try.prog 63 #[va, vb] w fun e w' => e = .returned (.int .i64 (cmpN x y)) ∧ Below w.heap.size w w' := by
  have RA := Lib.hid ha
  have RB := Lib.hid hb
  obtain ⟨a, cap, rfl, h1, h2, h3⟩ := ha
  obtain ⟨b, cb, rfl, h4, h5, h6⟩ := hb
  clear h1 h2 h3 h4 h5 h6
  rw [limI_length] at RA RB ⊢
  rw [limI_length]
  by_cases hlen : nlen x = nlen y
  · have HLX := Lib.hid (lt_pw_nlen x)
    have HLY := Lib.hid (lt_pw_nlen y)
    rw [← hlen] at HLY RB ⊢
    have HNX : Hid (nlen x = nlen x) := rfl
    have HNY := Lib.hid hlen
    obtain ⟨n, hn⟩ : ∃ n, nlen x = n := ⟨_, rfl⟩
    rw [hn] at hx RA RB HLX HLY HNY ⊢
    have HN := Lib.hid hn
    clear hn hlen hy HNX
    have hneq : ((n : Int) != (n : Int)) = false := by simp
    go_enter Try.func63, Try.ntmps63
    go_wp2
    clear hneq
    go_loopw [5] (fun i wr => ((∃ j : Nat, j < n ∧ i = .int .i64 (j : Int) ∧ Hid (x / pw (j + 1) = y / pw (j + 1))) ∨ (i = .int .i64 (-1) ∧ Hid (x = y))) ∧ ∃ q, wr = w.drewN q) (fun i _ => (intOf i + 1).toNat)
    case atStart =>
      refine ⟨?_, 0, rfl⟩
      by_cases hl : 0 < n
      · exact .inl ⟨n - 1, by omega, by go_num, by rw [show n - 1 + 1 = n by omega]; exact cmp_start HLX.out HLY.out⟩
      · obtain rfl : n = 0 := by omega
        exact .inr ⟨rfl, by have h1 := HLX.out; have h2 := HLY.out; rw [pw_zero] at h1 h2; unfold Hid; omega⟩
    case round =>
      obtain ⟨hc, q, rfl⟩ := hrel
      rcases hc with ⟨j, hj, rfl, HE⟩ | ⟨rfl, HE⟩
      · obtain ⟨b1, o1, rfl, hx1⟩ := row_limb RA.out (k := j) (by rw [HN.out]; exact hj)
        obtain ⟨b2, o2, rfl, hx2⟩ := row_limb RB.out (k := j) (by rw [← HNY.out]; exact hj)
        have HL := Lib.hid (fun h => cmp_lt HE.out h)
        have HG := Lib.hid (fun h => cmp_lt HE.out.symm h)
        have HU := Lib.hid (fun h => cmp_up HE.out h)
        obtain ⟨dx, hdx⟩ : ∃ d, dig x j = d := ⟨_, rfl⟩
        obtain ⟨dy, hdy⟩ : ∃ d, dig y j = d := ⟨_, rfl⟩
        rw [hdx] at hx1 HL HG HU
        rw [hdy] at hx2 HL HG HU
        clear hdx hdy
        by_cases h1 : dx < dy
        · have HR := Lib.hid (cmpN_lt (HL.out h1))
          have h1i : (dx : Int) < (dy : Int) := by omega
          go_wp2
          go_region
          go_wp2
          go_ret
          exact ⟨by rw [HR.out]; rfl, below_drewN (Below.refl _ _) _⟩
        · by_cases h2 : dy < dx
          · have HR := Lib.hid (cmpN_gt (HG.out h2))
            go_wp2
            go_region
            go_wp2
            go_region
            go_wp2
            go_ret
            exact ⟨by rw [HR.out]; rfl, below_drewN (Below.refl _ _) _⟩
          · have HR := Lib.hid (HU.out (by omega))
            go_wp2
            go_region
            go_wp2
            go_region
            go_wp2
            go_roundw
            case rel =>
              refine ⟨?_, q + 2, rfl⟩
              by_cases hj0 : 0 < j
              · exact .inl ⟨j - 1, by omega, by go_num, by rw [show j - 1 + 1 = j by omega]; exact HR⟩
              · exact .inr ⟨by go_num, by have := HR.out; rw [show j = 0 by omega] at this; exact cmp_end this⟩
            case measure => simp [intOf]
      · have HR : Hid (cmpN x y = 0) := by unfold Hid; rw [HE.out]; exact cmpN_eq y
        go_wp2
        go_ret
        exact ⟨by rw [HR.out]; rfl, below_drewN (Below.refl _ _) _⟩
  · have hneq : ((nlen x : Int) != (nlen y : Int)) = true := by simp; omega
    by_cases h1 : nlen x < nlen y
    · have HR := Lib.hid (cmpN_lt (lt_of_nlen h1))
      clear hlen
      go_enter Try.func63, Try.ntmps63
      go_wp2
      go_ret
      exact ⟨by rw [HR.out]; rfl, Below.refl _ _⟩
    · have HR := Lib.hid (cmpN_gt (lt_of_nlen (show nlen y < nlen x by omega)))
      clear hlen
      go_enter Try.func63, Try.ntmps63
      go_wp2
      go_ret
      exact ⟨by rw [HR.out]; rfl, Below.refl _ _⟩

theorem sub_step {x y i : Nat} (hxy : y ≤ x) {l p q : Int} (hl : l = -comC 1 (-1) x y i) (hp : p = (dig x i : Int)) (hq : q = (dig y i : Int)) : (p - l - q) % 1000000000 = digF (x - y) i ∧ (p - l - q) / 1000000000 = comC 1 (-1) x y (i + 1) := by
  have h := com_step (m := 1) (n := -1) (x := x) (y := y) (T := x - y) (i := i) (by omega) (c := -l) (by omega) (p := p) (q := -q) (t := p - l - q) (by rw [hp]; omega) (by rw [hq]; omega) (by omega)
  exact h
set_option maxHeartbeats 1000000 in
theorem spec_sub (va vb : Value) (x y : Nat) (w : World) (ha : RowOf iV w va (limI x)) (hb : RowOf iV w vb (limI y)) (hxy : y ≤ x) (hx : nlen x ≤ 1000) (hy : nlen y ≤ 1000) :
    Calls Try.prog 56 #[va, vb] w fun e w' => ∃ v, e = .returned v ∧ OwnI w' w.heap.size v (limI (x - y)) ∧ Below w.heap.size w w' := by
  have RA := Lib.hid ha
  have RB := Lib.hid hb
  obtain ⟨aa, ca, rfl, h1, h2, h3⟩ := ha
  obtain ⟨ab, cb, rfl, h4, h5, h6⟩ := hb
  clear h1 h2 h3 h4 h5 h6
  rw [limI_length] at RA RB ⊢
  rw [limI_length]
  have HY := fun k => Lib.hid (fun h : nlen y ≤ k => dig_past h)
  have HS := Lib.hid (fun (i : Nat) (l p q : Int) hl hp hq => sub_step (i := i) (l := l) (p := p) (q := q) hxy hl hp hq)
  have HC := Lib.hid (fun i => comC_less x y i)
  have HT := Lib.hid (show nlen (x - y) ≤ nlen x from nlen_mono (Nat.sub_le _ _))
  obtain ⟨nx, hnx⟩ : ∃ nx, nlen x = nx := ⟨_, rfl⟩
  obtain ⟨ny, hny⟩ : ∃ ny, nlen y = ny := ⟨_, rfl⟩
  rw [hnx] at hx RA HT ⊢
  rw [hny] at hy RB HY ⊢
  have HNX := Lib.hid hnx
  have HNY := Lib.hid hny
  clear hnx hny hxy
  go_enter Try.func56, Try.ntmps56
  go_wp2
  go_loopw [5, 6, 12] (fun ov cv iv wr => ∃ (k : Nat) (l : Int), k ≤ nx ∧ iv = .int .i64 k ∧ cv = .int .i64 l ∧ 0 ≤ l ∧ l ≤ 1 ∧ Hid (l = -comC 1 (-1) x y k) ∧ Hid (OwnI wr w.heap.size ov (listF k (digF (x - y)))) ∧ Hid (Below w.heap.size w wr)) (fun _ _ iv _ => nx - (intOf iv).toNat)
  case atStart => exact ⟨0, 0, Nat.zero_le _, rfl, rfl, by omega, by omega, by unfold Hid; rw [comC_zero]; rfl, OwnI.lit0 w, (Below.refl _ w).alloc (Nat.le_refl _) _⟩
  case round =>
    obtain ⟨k, l, hk, rfl, rfl, hl0, hl1, HL, HO, HB⟩ := hrel
    obtain ⟨v, rfl⟩ : ∃ v, v = u5 := ⟨_, rfl⟩
    have hln : (listF k (digF (x - y))).length ≤ 1099511627776 := by rw [listF_length]; omega
    have hcs : ∀ o, w.heap.size ≤ (wr.alloc o).heap.size := fun o => by have := HB.out.size; simp; omega
    by_cases hlt : k < nx
    · obtain ⟨b1, o1, rfl, hx1⟩ := row_limb (rowOf_below RA.out HB.out) (k := k) (by rw [HNX.out]; exact hlt)
      have hdx := dig_lt x k
      have HS1 := Lib.hid (fun (p q : Int) hp hq => HS.out k l p q HL.out hp hq)
      have HC1 := Lib.hid (HC.out (k + 1))
      obtain ⟨dx, hdxe⟩ : ∃ dx, dig x k = dx := ⟨_, rfl⟩
      rw [hdxe] at hx1 hdx HS1
      clear hdxe
      by_cases h2 : k < ny
      · obtain ⟨b2, o2, rfl, hx2⟩ := row_limb (rowOf_below RB.out HB.out) (k := k) (by rw [HNY.out]; exact h2)
        have hdy := dig_lt y k
        obtain ⟨dy, hdye⟩ : ∃ dy, dig y k = dy := ⟨_, rfl⟩
        rw [hdye] at hx2 hdy HS1
        have HS2 := Lib.hid (HS1.out dx dy rfl rfl)
        clear hdye
        by_cases hneg : (dx : Int) - l - dy < 0
        · have HD : Hid ((dx : Int) - l - dy + 1000000000 = digF (x - y) k) := by unfold Hid; rw [← HS2.out.1]; omega
          have HN : Hid ((1 : Int) = -comC 1 (-1) x y (k + 1)) := by unfold Hid; rw [← HS2.out.2]; omega
          go_wp2_with (at_builtin; refine append_int rfl _ _ 22 Try.underlying22 rfl w.heap.size _ _ _ ⟨wr.heap.size, 0, none⟩ rfl (HO.out.alloc _) rfl (cell_one_new _ _ _) hln (hcs _) ?_; intro v' w1 h1 hg1)
          go_roundw
          case rel => exact ⟨k + 1, 1, by omega, by go_num, rfl, by omega, by omega, HN, by rw [HD.out] at h1; rw [listF_succ]; exact h1, (HB.out.alloc HB.out.size _).grown hg1 (hcs _) fun g hg => (HO.out.lt g hg).1⟩
          case measure => simp [intOf]; omega
        · have HD : Hid ((dx : Int) - l - dy = digF (x - y) k) := by unfold Hid; rw [← HS2.out.1]; omega
          have HN : Hid ((0 : Int) = -comC 1 (-1) x y (k + 1)) := by unfold Hid; rw [← HS2.out.2]; omega
          go_wp2_with (at_builtin; refine append_int rfl _ _ 22 Try.underlying22 rfl w.heap.size _ _ _ ⟨wr.heap.size, 0, none⟩ rfl (HO.out.alloc _) rfl (cell_one_new _ _ _) hln (hcs _) ?_; intro v' w1 h1 hg1)
          go_roundw
          case rel => exact ⟨k + 1, 0, by omega, by go_num, rfl, by omega, by omega, HN, by rw [HD.out] at h1; rw [listF_succ]; exact h1, (HB.out.alloc HB.out.size _).grown hg1 (hcs _) fun g hg => (HO.out.lt g hg).1⟩
          case measure => simp [intOf]; omega
      · have HS2 := Lib.hid (HS1.out dx 0 rfl (by rw [(HY k).out (by omega)]; rfl))
        rw [Int.sub_zero] at HS2
        by_cases hneg : (dx : Int) - l < 0
        · have HD : Hid ((dx : Int) - l + 1000000000 = digF (x - y) k) := by unfold Hid; rw [← HS2.out.1]; omega
          have HN : Hid ((1 : Int) = -comC 1 (-1) x y (k + 1)) := by unfold Hid; rw [← HS2.out.2]; omega
          go_wp2_with (at_builtin; refine append_int rfl _ _ 22 Try.underlying22 rfl w.heap.size _ _ _ ⟨wr.heap.size, 0, none⟩ rfl (HO.out.alloc _) rfl (cell_one_new _ _ _) hln (hcs _) ?_; intro v' w1 h1 hg1)
          go_roundw
          case rel => exact ⟨k + 1, 1, by omega, by go_num, rfl, by omega, by omega, HN, by rw [HD.out] at h1; rw [listF_succ]; exact h1, (HB.out.alloc HB.out.size _).grown hg1 (hcs _) fun g hg => (HO.out.lt g hg).1⟩
          case measure => simp [intOf]; omega
        · have HD : Hid ((dx : Int) - l = digF (x - y) k) := by unfold Hid; rw [← HS2.out.1]; omega
          have HN : Hid ((0 : Int) = -comC 1 (-1) x y (k + 1)) := by unfold Hid; rw [← HS2.out.2]; omega
          go_wp2_with (at_builtin; refine append_int rfl _ _ 22 Try.underlying22 rfl w.heap.size _ _ _ ⟨wr.heap.size, 0, none⟩ rfl (HO.out.alloc _) rfl (cell_one_new _ _ _) hln (hcs _) ?_; intro v' w1 h1 hg1)
          go_roundw
          case rel => exact ⟨k + 1, 0, by omega, by go_num, rfl, by omega, by omega, HN, by rw [HD.out] at h1; rw [listF_succ]; exact h1, (HB.out.alloc HB.out.size _).grown hg1 (hcs _) fun g hg => (HO.out.lt g hg).1⟩
          case measure => simp [intOf]; omega
    · obtain rfl : k = nx := by omega
      have HT1 := Lib.hid (spec_trim v (x - y) k w.heap.size wr HO.out HT.out)
      go_wp2_with fail
      refine HT1.out.mono ?_
      rintro e w2 ⟨v', rfl, o, rfl⟩
      have O := Lib.hid o
      clear o
      go_wp2
      go_ret
      exact ⟨_, rfl, O.out, HB.out⟩

def natCmpI (zs0 zs1 : List Int) : Int := if okB zs0 && okB zs1 then cmpN (natI zs0) (natI zs1) else 0
theorem natCmpI_yes {x y : Nat} (hx : x < pw 60) (hy : y < pw 60) : natCmpI (limI x) (limI y) = cmpN x y := by unfold natCmpI; rw [okB_limI hx, okB_limI hy, natI_limI, natI_limI]; rfl
theorem natCmpI_no {zs0 zs1 : List Int} (h : okB zs0 = false ∨ okB zs1 = false) : natCmpI zs0 zs1 = 0 := by
  unfold natCmpI; rcases h with h | h <;> rw [h] <;> simp

def natSubL (zs0 zs1 : List Int) : List Int := if okB zs0 && okB zs1 then (if natI zs1 ≤ natI zs0 then limI (natI zs0 - natI zs1) else []) else []
theorem natSubL_len (zs0 zs1 : List Int) : (natSubL zs0 zs1).length ≤ 1000 := by
  unfold natSubL
  split
  · rename_i h
    split
    · rw [Bool.and_eq_true] at h
      have h1 := (okB_lim h.1).2
      rw [limI_length, nlen_le_iff]
      exact Nat.lt_of_le_of_lt (Nat.sub_le _ _) (Nat.lt_of_lt_of_le h1 (pw_mono (by omega)))
    · simp
  · simp
def subL (x y : Nat) : List Int := if y ≤ x then limI (x - y) else []
theorem natSubL_yes {x y : Nat} (hx : x < pw 60) (hy : y < pw 60) : natSubL (limI x) (limI y) = subL x y := by unfold natSubL subL; rw [okB_limI hx, okB_limI hy, natI_limI, natI_limI]; rfl
theorem natSubL_no {zs0 zs1 : List Int} (h : okB zs0 = false ∨ okB zs1 = false) : natSubL zs0 zs1 = [] := by
  unfold natSubL; rcases h with h | h <;> rw [h] <;> simp

end Go.Proofs.Ytofmpfcbdemcnaa
