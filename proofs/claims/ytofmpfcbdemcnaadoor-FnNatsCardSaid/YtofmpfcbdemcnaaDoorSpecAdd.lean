/- Sums, differences and cutting of zeros as the model reckons them; the exact law of NatAdd. -/
import Derived.Test.YtofmpfcbdemcnaaDoorAdd
import Derived.Test.YtofmpfcbdemcnaaDoorNum4
namespace Go.Proofs.YtofmpfcbdemcnaaDoor
open Go.RowKit

set_option maxHeartbeats 400000 in
theorem spec_trim (v : Value) (T n B : Nat) (w : World) (h : OwnI w B v (listF n (digF T))) (hT : nlen T ≤ n) :
    Calls Tryd.prog 34 #[v] w fun e w' => ∃ v', e = .returned v' ∧ OwnI w B v' (limI T) ∧ w' = w := by
  rcases h.form with ⟨rfl, hl⟩ | ⟨g, c, hv, hB, hg⟩
  · have hn : n = 0 := by have := congrArg List.length hl; rw [listF_length] at this; simpa using this
    have hT0 : limI T = [] := by
      have : nlen T = 0 := by omega
      unfold limI; rw [this]; rfl
    have HT := Lib.hid hT0
    clear hT0 hl hT h hn
    go_enter Tryd.func34, Tryd.ntmps34
    go_wp2
    go_loop [3] (fun sv => sv = .int .i64 0) (fun _ => 0)
    case atStart => rfl
    case round =>
      subst hrel
      go_wp2
      go_ret
      exact ⟨_, rfl, by rw [HT.out]; exact OwnI.nil _ _, rfl⟩
  · rw [listF_length] at hv
    subst hv
    have hcm := h.cap_le
    unfold maxLen at hcm
    have H := Lib.hid h
    clear h hg
    go_enter Tryd.func34, Tryd.ntmps34
    go_wp2
    go_loop [3] (fun sv => ∃ k : Nat, k ≤ n ∧ nlen T ≤ k ∧ sv = .int .i64 k) (fun sv => (intOf sv).toNat)
    case atStart => exact ⟨n, Nat.le_refl _, hT, rfl⟩
    case round =>
      obtain ⟨k, hk, hTk, rfl⟩ := hrel
      by_cases hp : 0 < k
      · have hcl := H.out.cell (k - 1) (by rw [listF_length]; omega)
        rw [listF_get] at hcl
        unfold digF at hcl
        have e1 : ((k : Int) - 1).toNat = k - 1 := by omega
        have HM := Lib.hid (trim_more hTk hp)
        have HD := Lib.hid (trim_done hTk hp)
        obtain ⟨d, hd⟩ : ∃ d, dig T (k - 1) = d := ⟨_, rfl⟩
        rw [hd] at hcl HM HD
        clear hd
        by_cases h0 : d = 0
        · have HM2 := Lib.hid (HM.out h0)
          subst h0
          go_wp2
          go_round
          case rel => exact ⟨k - 1, by omega, HM2.out, by go_num⟩
          case measure => simp [intOf]; omega
        · have HD2 := Lib.hid (HD.out h0)
          have hb : ((d : Int) == 0) = false := by simp; exact h0
          clear h0
          go_wp2
          go_ret
          refine ⟨_, rfl, ?_, rfl⟩
          have := H.out.take hk
          rw [HD2.out, limI_take (by have := HD2.out; omega)] at this
          have e := HD2.out
          rw [← e] at this
          exact this
      · obtain rfl : k = 0 := by omega
        have HT : Hid (limI T = []) := by
          unfold Hid
          have : nlen T = 0 := by omega
          unfold limI; rw [this]; rfl
        go_wp2
        go_ret
        refine ⟨_, rfl, ?_, rfl⟩
        have := H.out.take (Nat.zero_le _)
        rw [List.take_zero] at this
        rw [HT.out]
        exact this

theorem sum_step {x y i : Nat} {c p q : Int} (hc : c = comC 1 1 x y i) (hp : p = (dig x i : Int)) (hq : q = (dig y i : Int)) : (c + p + q) % 1000000000 = digF (x + y) i ∧ (c + p + q) / 1000000000 = comC 1 1 x y (i + 1) := by
  have h := com_step (m := 1) (n := 1) (x := x) (y := y) (T := x + y) (i := i) (by omega) hc (p := p) (q := q) (t := c + p + q) (by rw [hp]; omega) (by rw [hq]; omega) (by omega)
  exact h
theorem okB_cases {zs : List Int} (h : okB zs = true) : ∃ x, zs = limI x ∧ x < pw 60 := ⟨_, okB_lim h⟩
def natAddL (zs0 zs1 : List Int) : List Int := if okB zs0 && okB zs1 then capL (natI zs0 + natI zs1) else []
theorem natAddL_len (zs0 zs1 : List Int) : (natAddL zs0 zs1).length ≤ 1000 := by
  unfold natAddL
  split
  · have := capL_len (natI zs0 + natI zs1); omega
  · simp
theorem natAddL_yes {x y : Nat} (hx : x < pw 60) (hy : y < pw 60) : natAddL (limI x) (limI y) = capL (x + y) := by unfold natAddL; rw [okB_limI hx, okB_limI hy, natI_limI, natI_limI]; rfl
theorem natAddL_no {zs0 zs1 : List Int} (h : okB zs0 = false ∨ okB zs1 = false) : natAddL zs0 zs1 = [] := by
  unfold natAddL; rcases h with h | h <;> rw [h] <;> simp

set_option maxHeartbeats 400000 in
theorem impl_natAdd (va : Value) (zs0 : List Int) (vb : Value) (zs1 : List Int) (w : World) (ha : RowOf iV w va zs0) (hb : RowOf iV w vb zs1) :
    Calls Tryd.prog 15 #[va, vb] w fun e w' => ∃ v, e = .returned v ∧ OwnI w' w.heap.size v (natAddL zs0 zs1) ∧ Below w.heap.size w w' := by
  have K0 := Lib.hid (impl_natOk va zs0 w ha)
  have K1 := Lib.hid (impl_natOk vb zs1 w hb)
  cases e0 : okB zs0 with
  | false =>
    have HE := Lib.hid (natAddL_no (zs0 := zs0) (zs1 := zs1) (.inl e0))
    obtain ⟨aa, ca, rfl, h1, h2, h3⟩ := ha
    obtain ⟨ab, cb, rfl, h4, h5, h6⟩ := hb
    rw [e0] at K0
    clear e0 h1 h2 h3 h4 h5 h6
    go_enter Tryd.func15, Tryd.ntmps15
    go_wp2_with fail
    refine K0.out.mono ?_
    rintro e w1 ⟨rfl, rfl⟩
    go_wp2
    go_ret
    exact ⟨_, rfl, by rw [HE.out]; exact OwnI.nil _ _, Below.refl _ _⟩
  | true =>
    cases e1 : okB zs1 with
    | false =>
      have HE := Lib.hid (natAddL_no (zs0 := zs0) (zs1 := zs1) (.inr e1))
      obtain ⟨aa, ca, rfl, h1, h2, h3⟩ := ha
      obtain ⟨ab, cb, rfl, h4, h5, h6⟩ := hb
      rw [e0] at K0
      rw [e1] at K1
      clear e0 e1 h1 h2 h3 h4 h5 h6
      go_enter Tryd.func15, Tryd.ntmps15
      go_wp2_with fail
      refine K0.out.mono ?_
      rintro e w1 ⟨rfl, rfl⟩
      go_wp2_with fail
      refine K1.out.mono ?_
      rintro e w1 ⟨rfl, rfl⟩
      go_wp2
      go_ret
      exact ⟨_, rfl, by rw [HE.out]; exact OwnI.nil _ _, Below.refl _ _⟩
    | true =>
      obtain ⟨x, rfl, hx⟩ := okB_cases e0
      obtain ⟨y, rfl, hy⟩ := okB_cases e1
      have HE := Lib.hid (natAddL_yes (x := x) (y := y) hx hy)
      have H60x := Lib.hid ((nlen_le_iff _ _).2 hx)
      have H60y := Lib.hid ((nlen_le_iff _ _).2 hy)
      have hx1 : nlen x ≤ 1000 := by have := H60x.out; omega
      have hy1 : nlen y ≤ 1000 := by have := H60y.out; omega
      rw [e0] at K0
      rw [e1] at K1
      have RA := Lib.hid ha
      have RB := Lib.hid hb
      obtain ⟨aa, ca, rfl, h1, h2, h3⟩ := ha
      obtain ⟨ab, cb, rfl, h4, h5, h6⟩ := hb
      clear h1 h2 h3 h4 h5 h6 e0 e1 hx hy
      rw [limI_length] at RA K0 ⊢
      rw [limI_length] at RB K1
      try rw [limI_length]
      go_enter Tryd.func15, Tryd.ntmps15
      go_wp2_with fail
      refine K0.out.mono ?_
      rintro e w1 ⟨rfl, rfl⟩
      go_wp2_with fail
      refine K1.out.mono ?_
      rintro e w1 ⟨rfl, rfl⟩
      go_wp2_with fail
      refine (impl_plus _ _ x y _ RA.out RB.out hx1 hy1).mono ?_
      rintro e w2 ⟨v, rfl, o, b⟩
      have O := Lib.hid (impl_limited v (x + y) w1.heap.size w2 o)
      clear o
      go_wp2_with fail
      refine O.out.mono ?_
      rintro e w3 ⟨v', rfl, o, rfl⟩
      have O2 := Lib.hid o
      clear o
      go_wp2
      go_ret
      exact ⟨_, rfl, by rw [HE.out]; exact O2.out, b⟩

end Go.Proofs.YtofmpfcbdemcnaaDoor
