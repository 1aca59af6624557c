/- NatOk of the program; the exact law of NatOk. -/
import Derived.Test.YtofmpfcbdemcnaaDoorNatOk
import Derived.ProofKit
import Derived.OpenShut
namespace Go.Proofs.YtofmpfcbdemcnaaDoor
open Go.RowKit Go.WideShapes Go.ChangeShapes

/-- a []int that came in, as a row -/
theorem ints_in {H : Type} {enc : TypeId × Value → H} {W : World} {a : Option Addr} {l c : Nat} {d : DataW H} {p : List MemPlace}
    (h : DataW.Trod enc Tryd.prog W 0 (fun _ => true) true 23 (Value.slice a l c) d p) : ∃ zs, RowOf iV W (.slice a l c) zs ∧ True := by
  obtain ⟨fuel, hf⟩ := h
  rcases open_ints Tryd.underlying23 Tryd.underlying3 (by kernel_rfl) hf with ⟨hcs, _⟩ | ⟨x, l', c', zs, hcs, _, hl, hm, hz, _, hcell, hwz⟩
  · simp [Value.cells] at hcs
    obtain ⟨rfl, rfl, rfl⟩ := hcs
    exact ⟨[], ⟨none, 0, rfl, by simp, by unfold maxLen; omega, fun i hi => by simp at hi⟩, trivial⟩
  · simp [Value.cells] at hcs
    obtain ⟨rfl, rfl, rfl⟩ := hcs
    have hz' : zs.length = c := by simpa using hz
    have hlt : (zs.take l).length = l := by simp; omega
    refine ⟨zs.take l, ⟨some x, c, by rw [hlt], by omega, hm, fun i hi => ?_⟩, trivial⟩
    have hi' : i < zs.length := by omega
    obtain ⟨b, o, spot⟩ := x
    have h0 := hcell 0 (by omega)
    have hspot : spot = none := by simpa [Addr.add] using World.cell?_spot h0
    subst hspot
    refine ⟨b, o, rfl, ?_⟩
    have hc := hcell i hi'
    rw [add_plain] at hc
    rw [hc, getD_at hi']
    simp [iV]

set_option maxHeartbeats 400000 in
theorem impl_natOk (v : Value) (zs : List Int) (w : World) (h : RowOf iV w v zs) :
    Calls Tryd.prog 35 #[v] w fun e w' => e = .returned (.bool (okB zs)) ∧ w' = w := by
  obtain ⟨a, cap, rfl, hc, hm, hr⟩ := h
  unfold maxLen at hm
  have R := Lib.hid hr
  clear hr
  obtain ⟨n, hnn⟩ : ∃ n, zs.length = n := ⟨_, rfl⟩
  rw [hnn] at hc ⊢
  have HN := Lib.hid hnn
  clear hnn
  by_cases hl : n ≤ 60
  · by_cases h0 : n = 0
    · have H := Lib.hid (okB_nil (zs := zs) (by rw [HN.out]; exact h0))
      subst h0
      go_enter Tryd.func35, Tryd.ntmps35
      go_wp2
      go_loop [24] (fun iv => iv = .int .i64 0) (fun iv => 0)
      case atStart => rfl
      case round =>
        subst hrel
        go_wp2
        go_ret
        exact ⟨ret_bool (by rw [H.out]), rfl⟩
    · have hp : 0 < n := by omega
      obtain ⟨b, o, ha, _⟩ := R.out 0 (by rw [HN.out]; exact hp)
      have hx := last_cell HN.out hp ha R.out
      subst ha
      obtain ⟨s, hs⟩ : ∃ s, zs[n - 1]'(by rw [HN.out]; omega) = s := ⟨_, rfl⟩
      rw [hs] at hx
      have HS := Lib.hid hs
      have e1 : (((n : Int) - 1)).toNat = n - 1 := by omega
      clear hs
      by_cases hs0 : s = 0
      · have H := Lib.hid (okB_top (zs := zs) (by rw [HN.out]; exact hp) (by rw [← hs0, ← HS.out]; simp only [HN.out]))
        subst hs0
        go_enter Tryd.func35, Tryd.ntmps35
        go_wp2
        go_ret
        exact ⟨ret_bool (by rw [H.out]), rfl⟩
      · have H := Lib.hid (fun h => okB_yes (zs := zs) h (by rw [HN.out]; exact hl) (by rw [HN.out]; exact hp) (by have := HS.out; simp only [HN.out]; rw [this]; exact hs0))
        have hb : (s == 0) = false := by simpa using hs0
        clear hs0
        go_enter Tryd.func35, Tryd.ntmps35
        go_wp2
        clear hx e1 hb
        go_loop [24] (fun iv => ∃ k : Nat, k ≤ n ∧ iv = .int .i64 k ∧ Hid (InTo zs k)) (fun iv => n - (intOf iv).toNat)
        case atStart => exact ⟨0, Nat.zero_le _, rfl, inTo_zero zs⟩
        case round =>
          obtain ⟨k, hk, rfl, HK⟩ := hrel
          by_cases hlt : k < n
          · obtain ⟨b', o', ha', hx⟩ := R.out k (by rw [HN.out]; exact hlt)
            injection ha' with ha'
            injection ha' with e1 e2
            subst e1 e2
            have H1 := Lib.hid (fun h => okB_elem (zs := zs) (k := k) (by rw [HN.out]; exact hlt) h)
            have H2 := Lib.hid (fun h1 h2 => inTo_succ (zs := zs) (k := k) (by rw [HN.out]; exact hlt) HK.out h1 h2)
            obtain ⟨s, hs⟩ : ∃ s, zs[k]'(by rw [HN.out]; exact hlt) = s := ⟨_, rfl⟩
            rw [hs] at hx H1 H2
            unfold iV at hx
            clear hs
            by_cases hn0 : 0 ≤ s
            · by_cases hn1 : s < 1000000000
              · go_wp2
                go_round
                case rel => exact ⟨k + 1, by omega, by go_num, H2.out hn0 hn1⟩
                case measure => simp [intOf]; omega
              · have hF := Lib.hid (H1.out (by omega))
                go_wp2
                go_ret
                exact ⟨ret_bool (by rw [hF.out]), rfl⟩
            · have hF := Lib.hid (H1.out (by omega))
              go_wp2
              go_ret
              exact ⟨ret_bool (by rw [hF.out]), rfl⟩
          · obtain rfl : k = n := by omega
            have hF := Lib.hid (H.out (by rw [HN.out]; exact HK.out))
            go_wp2
            go_ret
            exact ⟨ret_bool (by rw [hF.out]), rfl⟩
  · have H := Lib.hid (okB_long (zs := zs) (by rw [HN.out]; omega))
    go_enter Tryd.func35, Tryd.ntmps35
    go_wp2
    go_ret
    exact ⟨ret_bool (by rw [H.out]), rfl⟩

end Go.Proofs.YtofmpfcbdemcnaaDoor
