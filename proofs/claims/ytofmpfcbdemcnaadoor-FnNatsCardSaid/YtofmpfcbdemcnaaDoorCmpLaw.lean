/- Comparing and subtracting in the model; the exact laws of NatCmp, NatSub and NatToInt. -/
import Derived.Test.YtofmpfcbdemcnaaDoorCompare
import Derived.Test.YtofmpfcbdemcnaaDoorSpecAdd
namespace Go.Proofs.YtofmpfcbdemcnaaDoor
open Go.RowKit

theorem sub_step {x y i : Nat} (hxy : y ≤ x) {l p q : Int} (hl : l = -comC 1 (-1) x y i) (hp : p = (dig x i : Int)) (hq : q = (dig y i : Int)) : (p - l - q) % 1000000000 = digF (x - y) i ∧ (p - l - q) / 1000000000 = comC 1 (-1) x y (i + 1) := by
  have h := com_step (m := 1) (n := -1) (x := x) (y := y) (T := x - y) (i := i) (by omega) (c := -l) (by omega) (p := p) (q := -q) (t := p - l - q) (by rw [hp]; omega) (by rw [hq]; omega) (by omega)
  exact h
def natCmpI (zs0 zs1 : List Int) : Int := if okB zs0 && okB zs1 then cmpN (natI zs0) (natI zs1) else 0
theorem natCmpI_yes {x y : Nat} (hx : x < pw 60) (hy : y < pw 60) : natCmpI (limI x) (limI y) = cmpN x y := by unfold natCmpI; rw [okB_limI hx, okB_limI hy, natI_limI, natI_limI]; rfl
theorem natCmpI_no {zs0 zs1 : List Int} (h : okB zs0 = false ∨ okB zs1 = false) : natCmpI zs0 zs1 = 0 := by
  unfold natCmpI; rcases h with h | h <;> rw [h] <;> simp

set_option maxHeartbeats 400000 in
theorem impl_natCmp (va : Value) (zs0 : List Int) (vb : Value) (zs1 : List Int) (w : World) (ha : RowOf iV w va zs0) (hb : RowOf iV w vb zs1) :
    Calls Tryd.prog 13 #[va, vb] w fun e w' => e = .returned (.int .i64 (natCmpI zs0 zs1)) ∧ Below w.heap.size w w' := by
  have K0 := Lib.hid (impl_natOk va zs0 w ha)
  have K1 := Lib.hid (impl_natOk vb zs1 w hb)
  cases e0 : okB zs0 with
  | false =>
    have HE := Lib.hid (natCmpI_no (zs0 := zs0) (zs1 := zs1) (.inl e0))
    obtain ⟨aa, ca, rfl, h1, h2, h3⟩ := ha
    obtain ⟨ab, cb, rfl, h4, h5, h6⟩ := hb
    rw [e0] at K0
    clear e0 h1 h2 h3 h4 h5 h6
    go_enter Tryd.func13, Tryd.ntmps13
    go_wp2_with fail
    refine K0.out.mono ?_
    rintro e w1 ⟨rfl, rfl⟩
    go_wp2
    go_ret
    exact ⟨by rw [HE.out]; rfl, Below.refl _ _⟩
  | true =>
    cases e1 : okB zs1 with
    | false =>
      have HE := Lib.hid (natCmpI_no (zs0 := zs0) (zs1 := zs1) (.inr e1))
      obtain ⟨aa, ca, rfl, h1, h2, h3⟩ := ha
      obtain ⟨ab, cb, rfl, h4, h5, h6⟩ := hb
      rw [e0] at K0
      rw [e1] at K1
      clear e0 e1 h1 h2 h3 h4 h5 h6
      go_enter Tryd.func13, Tryd.ntmps13
      go_wp2_with fail
      refine K0.out.mono ?_
      rintro e w1 ⟨rfl, rfl⟩
      go_wp2_with fail
      refine K1.out.mono ?_
      rintro e w1 ⟨rfl, rfl⟩
      go_wp2
      go_ret
      exact ⟨by rw [HE.out]; rfl, Below.refl _ _⟩
    | true =>
      obtain ⟨x, rfl, hx⟩ := okB_cases e0
      obtain ⟨y, rfl, hy⟩ := okB_cases e1
      have HE := Lib.hid (natCmpI_yes (x := x) (y := y) hx hy)
      have H60x := Lib.hid ((nlen_le_iff _ _).2 hx)
      have H60y := Lib.hid ((nlen_le_iff _ _).2 hy)
      have hx1 : nlen x ≤ 1000 := by have := H60x.out; omega
      have hy1 : nlen y ≤ 1000 := by have := H60y.out; omega
      rw [e0] at K0
      rw [e1] at K1
      have RA := Lib.hid ha
      have RB := Lib.hid hb
      obtain ⟨aa, ca, rfl, h1, h2, h3⟩ := ha
      obtain ⟨ab, cb, rfl, h4, h5, h6⟩ := hb
      clear h1 h2 h3 h4 h5 h6 e0 e1 hx hy
      rw [limI_length] at RA K0 ⊢
      rw [limI_length] at RB K1
      try rw [limI_length]
      go_enter Tryd.func13, Tryd.ntmps13
      go_wp2_with fail
      refine K0.out.mono ?_
      rintro e w1 ⟨rfl, rfl⟩
      go_wp2_with fail
      refine K1.out.mono ?_
      rintro e w1 ⟨rfl, rfl⟩
      go_wp2_with fail
      refine (impl_compare _ _ x y _ RA.out RB.out hx1 hy1).mono ?_
      rintro e w2 ⟨rfl, b⟩
      go_wp2
      go_ret
      exact ⟨by rw [HE.out]; rfl, b⟩

def natSubL (zs0 zs1 : List Int) : List Int := if okB zs0 && okB zs1 then (if natI zs1 ≤ natI zs0 then limI (natI zs0 - natI zs1) else []) else []
theorem natSubL_len (zs0 zs1 : List Int) : (natSubL zs0 zs1).length ≤ 1000 := by
  unfold natSubL
  split
  · rename_i h
    split
    · rw [Bool.and_eq_true] at h
      have h1 := (okB_lim h.1).2
      rw [limI_length, nlen_le_iff]
      exact Nat.lt_of_le_of_lt (Nat.sub_le _ _) (Nat.lt_of_lt_of_le h1 (pw_mono (by omega)))
    · simp
  · simp
def subL (x y : Nat) : List Int := if y ≤ x then limI (x - y) else []
theorem natSubL_yes {x y : Nat} (hx : x < pw 60) (hy : y < pw 60) : natSubL (limI x) (limI y) = subL x y := by unfold natSubL subL; rw [okB_limI hx, okB_limI hy, natI_limI, natI_limI]; rfl
theorem natSubL_no {zs0 zs1 : List Int} (h : okB zs0 = false ∨ okB zs1 = false) : natSubL zs0 zs1 = [] := by
  unfold natSubL; rcases h with h | h <;> rw [h] <;> simp

end Go.Proofs.YtofmpfcbdemcnaaDoor
