/- NatOk of the program and of the model both tell whether a list is a natural number: at most 60 limbs, each in its range, none 0 at the end. -/
import Derived.Test.YtofmpfcbdemcnaaDoorFill
namespace Go.Proofs.YtofmpfcbdemcnaaDoor
open Go.RowKit

theorem getD_at {l : List Int} {i : Nat} (h : i < l.length) : l.getD i 0 = l[i]'h := by
  rw [List.getD_eq_getElem?_getD, List.getElem?_eq_getElem h]; rfl
def limbB (x : Int) : Bool := decide (0 ≤ x) && decide (x < 1000000000)
def okB (zs : List Int) : Bool := decide (zs.length ≤ 60) && zs.all limbB && (decide (zs.length = 0) || decide (zs.getD (zs.length - 1) 0 ≠ 0))
def InTo (zs : List Int) (k : Nat) : Prop := ∀ j (h : j < zs.length), j < k → 0 ≤ zs[j]'h ∧ zs[j]'h < 1000000000
theorem inTo_zero (zs : List Int) : InTo zs 0 := fun _ _ h => absurd h (by omega)
theorem inTo_succ {zs : List Int} {k : Nat} (hk : k < zs.length) (h : InTo zs k) (h1 : 0 ≤ zs[k]'hk) (h2 : zs[k]'hk < 1000000000) : InTo zs (k + 1) := by
  intro j hj hjk
  by_cases e : j = k
  · subst e; exact ⟨h1, h2⟩
  · exact h j hj (by omega)
theorem okB_elem {zs : List Int} {k : Nat} (hk : k < zs.length) (h : ¬ (0 ≤ zs[k]'hk ∧ zs[k]'hk < 1000000000)) : okB zs = false := by
  unfold okB
  rw [Bool.and_eq_false_iff]; left
  rw [Bool.and_eq_false_iff]; right
  rw [List.all_eq_false]
  exact ⟨_, List.getElem_mem hk, by unfold limbB; simpa using h⟩
theorem okB_long {zs : List Int} (h : 60 < zs.length) : okB zs = false := by
  unfold okB
  rw [decide_eq_false (by omega)]; simp
theorem okB_top {zs : List Int} (h0 : 0 < zs.length) (h : zs[zs.length - 1]'(by omega) = 0) : okB zs = false := by
  unfold okB
  have e : zs.getD (zs.length - 1) 0 = 0 := by rw [getD_at (by omega), h]
  rw [e, decide_eq_false (show ¬ zs.length = 0 by omega)]; simp
theorem inTo_all {zs : List Int} (h : InTo zs zs.length) : zs.all limbB = true := by
  rw [List.all_eq_true]
  intro c hc
  obtain ⟨j, hj, rfl⟩ := List.getElem_of_mem hc
  have := h j hj hj
  unfold limbB; simpa using this
theorem okB_nil {zs : List Int} (h0 : zs.length = 0) : okB zs = true := by
  obtain rfl : zs = [] := List.eq_nil_of_length_eq_zero h0
  rfl
theorem okB_yes {zs : List Int} (h : InTo zs zs.length) (hl : zs.length ≤ 60) (h0 : 0 < zs.length) (ht : zs[zs.length - 1]'(by omega) ≠ 0) : okB zs = true := by
  unfold okB
  have e : zs.getD (zs.length - 1) 0 = zs[zs.length - 1]'(by omega) := getD_at (by omega)
  rw [inTo_all h, decide_eq_true hl, e, decide_eq_true ht]; simp

/-- the number that a list tells -/
def natI (zs : List Int) : Nat := val (zs.map Int.toNat)
/-- a list that is a natural number is the list of its limbs -/
theorem okB_lim {zs : List Int} (h : okB zs = true) : zs = limI (natI zs) ∧ natI zs < pw 60 := by
  unfold okB at h
  rw [Bool.and_eq_true, Bool.and_eq_true, decide_eq_true_eq, List.all_eq_true, Bool.or_eq_true, decide_eq_true_eq, decide_eq_true_eq] at h
  obtain ⟨⟨h1, h2⟩, h3⟩ := h
  have hz : ∀ x ∈ zs, 0 ≤ x ∧ x < 1000000000 := fun x hx => by have := h2 x hx; unfold limbB at this; simpa using this
  have ha : AllLimb (zs.map Int.toNat) := by
    intro y hy
    obtain ⟨x, hx, rfl⟩ := List.mem_map.1 hy
    have := hz x hx; omega
  have hlim : lim (natI zs) = zs.map Int.toNat := by
    refine lim_val _ ha (fun hne => ?_)
    have hn : 0 < zs.length := by simpa using hne
    rcases h3 with h3 | h3
    · omega
    · have e : zs.getD (zs.length - 1) 0 = zs[zs.length - 1]'(by omega) := getD_at (by omega)
      rw [e] at h3
      have := hz _ (List.getElem_mem (show zs.length - 1 < zs.length by omega))
      simp only [List.length_map, List.getElem_map]
      omega
  have hnl : nlen (natI zs) = zs.length := by have := congrArg List.length hlim; rw [lim_length] at this; simpa using this
  constructor
  · apply List.ext_getElem (by rw [limI_length, hnl])
    intro i i1 i2
    rw [limI_get]
    have := hz _ (List.getElem_mem i1)
    have e : (lim (natI zs))[i]'(by rw [lim_length, hnl]; exact i1) = (zs.map Int.toNat)[i]'(by simpa using i1) := by simp only [hlim]
    rw [lim_get] at e
    rw [e, List.getElem_map]
    omega
  · rw [← nlen_le_iff]; omega
theorem okB_limI {x : Nat} (h : x < pw 60) : okB (limI x) = true := by
  by_cases h0 : x = 0
  · subst h0; rw [limI_zero]; rfl
  · have hp : 0 < nlen x := (nlen_pos_iff x).2 (by omega)
    refine okB_yes (fun j hj _ => ?_) ?_ (by rw [limI_length]; exact hp) ?_
    · rw [limI_get]; have := dig_lt x j; omega
    · rw [limI_length, nlen_le_iff]; exact h
    · rw [limI_get, limI_length]; have := dig_top (x := x) (by omega); omega
theorem natI_limI (x : Nat) : natI (limI x) = x := by
  have e : (limI x).map Int.toNat = lim x := by
    apply List.ext_getElem (by rw [List.length_map, limI_length, lim_length])
    intro i h1 h2
    rw [List.getElem_map, limI_get, lim_get]; rfl
  unfold natI
  rw [e]
  have h1 : AllLimb (lim x) := by
    intro y hy
    obtain ⟨i, hi, rfl⟩ := List.getElem_of_mem hy
    rw [lim_get]; exact dig_lt _ _
  have h2 := val_lt _ h1
  rw [lim_length] at h2
  have h3 : ∀ i, i < nlen x → dig (val (lim x)) i = dig x i := fun i hi => by
    rw [dig_val _ i (by rw [lim_length]; exact hi) h1, lim_get]
  have h4 := lt_pw_nlen x
  have key : ∀ k, k ≤ nlen x → val (lim x) / pw (nlen x - k) = x / pw (nlen x - k) := by
    intro k
    induction k with
    | zero => intro _; rw [Nat.sub_zero, Nat.div_eq_of_lt h2, Nat.div_eq_of_lt h4]
    | succ k ih =>
      intro hk
      have ih := ih (by omega)
      rw [show nlen x - k = (nlen x - (k + 1)) + 1 by omega] at ih
      exact cmp_up ih (h3 _ (by omega))
  have := key (nlen x) (Nat.le_refl _)
  rw [Nat.sub_self] at this
  exact cmp_end this

set_option maxHeartbeats 400000 in
theorem spec_in (x lo hi : Int) (w : World) :
    Calls Tryd.prog 71 #[.int .i64 x, .int .i64 lo, .int .i64 hi] w fun e w' => e = .returned (.bool (decide (lo ≤ x) && decide (x ≤ hi))) ∧ w' = w := by
  by_cases h : lo ≤ x
  · go_enter Tryd.func71, Tryd.ntmps71
    go_wp2
    go_ret
    exact ⟨ret_bool (by simp [h]), rfl⟩
  · go_enter Tryd.func71, Tryd.ntmps71
    go_wp2
    go_ret
    exact ⟨ret_bool (by rw [decide_eq_false (show ¬ lo ≤ x by omega)]; rfl), rfl⟩

theorem last_cell {w : World} {b o : Nat} {a : Option Addr} {zs : List Int} {n : Nat} (hN : zs.length = n) (hn : 0 < n) (ha : a = some ⟨b, o, none⟩)
    (hr : ∀ i (h : i < zs.length), ∃ b o, a = some ⟨b, o, none⟩ ∧ w.cell? ⟨b, o + i, none⟩ = some (iV (zs[i]'h))) : w.cell? ⟨b, o + (n - 1), none⟩ = some (.int .i64 (zs[n - 1]'(by omega))) := by
  obtain ⟨b', o', e, hx⟩ := hr (n - 1) (by omega)
  rw [ha] at e
  injection e with e
  injection e with e1 e2
  subst e1 e2
  exact hx

set_option maxHeartbeats 400000 in
theorem spec_natOk (v : Value) (zs : List Int) (w : World) (h : RowOf iV w v zs) :
    Calls Tryd.prog 47 #[v] w fun e w' => e = .returned (.bool (okB zs)) ∧ w' = w := by
  obtain ⟨a, cap, rfl, hc, hm, hr⟩ := h
  unfold maxLen at hm
  have R := Lib.hid hr
  clear hr
  obtain ⟨n, hnn⟩ : ∃ n, zs.length = n := ⟨_, rfl⟩
  rw [hnn] at hc ⊢
  have HN := Lib.hid hnn
  clear hnn
  go_enter Tryd.func47, Tryd.ntmps47
  go_wp2
  go_loop [7] (fun iv => ∃ k : Nat, k ≤ n ∧ iv = .int .i64 k ∧ Hid (InTo zs k)) (fun iv => n - (intOf iv).toNat)
  case atStart => exact ⟨0, Nat.zero_le _, rfl, inTo_zero zs⟩
  case round =>
    obtain ⟨k, hk, rfl, HK⟩ := hrel
    by_cases hlt : k < n
    · obtain ⟨b, o, rfl, hx⟩ := R.out k (by rw [HN.out]; exact hlt)
      have H1 := Lib.hid (fun h => okB_elem (zs := zs) (k := k) (by rw [HN.out]; exact hlt) h)
      have H2 := Lib.hid (fun h1 h2 => inTo_succ (zs := zs) (k := k) (by rw [HN.out]; exact hlt) HK.out h1 h2)
      obtain ⟨s, hs⟩ : ∃ s, zs[k]'(by rw [HN.out]; exact hlt) = s := ⟨_, rfl⟩
      rw [hs] at hx H1 H2
      unfold iV at hx
      clear hs R
      by_cases hin : 0 ≤ s ∧ s < 1000000000
      · have hb : (decide (0 ≤ s) && decide (s ≤ 999999999)) = true := by simp; omega
        go_wp2_with (go_at_call 71; refine (spec_in _ _ _ _).mono ?_; rw [hb]; rintro e w' ⟨rfl, rfl⟩)
        go_round
        case rel => exact ⟨k + 1, by omega, by go_num, H2.out hin.1 hin.2⟩
        case measure => simp [intOf]; omega
      · have hb : (decide (0 ≤ s) && decide (s ≤ 999999999)) = false := by simp; omega
        have HI := Lib.hid hin
        clear hin
        go_wp2_with (go_at_call 71; refine (spec_in _ _ _ _).mono ?_; rw [hb]; rintro e w' ⟨rfl, rfl⟩)
        go_ret
        exact ⟨ret_bool (by rw [H1.out HI.out]), rfl⟩
    · obtain rfl : k = n := by omega
      by_cases hl : k ≤ 60
      · by_cases h0 : k = 0
        · have H := Lib.hid (okB_nil (zs := zs) (by rw [HN.out]; exact h0))
          subst h0
          go_wp2
          go_ret
          exact ⟨ret_bool (by rw [H.out]), rfl⟩
        · have hp : 0 < k := by omega
          obtain ⟨b, o, ha, _⟩ := R.out 0 (by rw [HN.out]; exact hp)
          have hx := last_cell HN.out hp ha R.out
          subst ha
          obtain ⟨s, hs⟩ : ∃ s, zs[k - 1]'(by rw [HN.out]; omega) = s := ⟨_, rfl⟩
          rw [hs] at hx
          have HS := Lib.hid hs
          have e1 : (((k : Int) - 1)).toNat = k - 1 := by omega
          have hk0 : ((k : Int) == 0) = false := by simp; omega
          clear hs R
          by_cases hs0 : s = 0
          · have H := Lib.hid (okB_top (zs := zs) (by rw [HN.out]; exact hp) (by rw [← hs0, ← HS.out]; simp only [HN.out]))
            subst hs0
            go_wp2
            go_ret
            exact ⟨ret_bool (by rw [H.out]), rfl⟩
          · have H := Lib.hid (okB_yes (zs := zs) (by rw [HN.out]; exact HK.out) (by rw [HN.out]; exact hl) (by rw [HN.out]; exact hp) (by have := HS.out; simp only [HN.out]; rw [this]; exact hs0))
            have hb : (s != 0) = true := by simpa using hs0
            clear hs0
            go_wp2
            go_ret
            exact ⟨ret_bool (by rw [H.out]), rfl⟩
      · have H := Lib.hid (okB_long (zs := zs) (by rw [HN.out]; omega))
        go_wp2
        go_ret
        exact ⟨ret_bool (by rw [H.out]), rfl⟩

end Go.Proofs.YtofmpfcbdemcnaaDoor
