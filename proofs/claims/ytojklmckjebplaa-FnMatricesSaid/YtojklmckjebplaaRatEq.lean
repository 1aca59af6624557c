/- RatEqual of the model. -/
import Derived.Test.YtojklmckjebplaaRat
namespace Go.Proofs.Ytojklmckjebplaa
open Go.RowKit
set_option linter.unusedVariables false
set_option linter.unusedSimpArgs false

def listB (xs ys : List Int) : Bool := decide (xs = ys)
theorem listB_len {xs ys : List Int} (h : xs.length ≠ ys.length) : listB xs ys = false := decide_eq_false (fun e => h (by rw [e]))
theorem listB_at {xs ys : List Int} {k : Nat} (h : xs[k]? ≠ ys[k]?) : listB xs ys = false := decide_eq_false (fun e => h (by rw [e]))
theorem listB_all {xs ys : List Int} {n : Nat} (h : ∀ j, j < n → xs[j]? = ys[j]?) (hx : xs.length = n) (hy : ys.length = n) : listB xs ys = true := by
  refine decide_eq_true (List.ext_getElem? fun j => ?_)
  by_cases hj : j < n
  · exact h j hj
  · rw [List.getElem?_eq_none (by omega), List.getElem?_eq_none (by omega)]

set_option maxHeartbeats 400000 in
theorem spec_l04List (v1 : Value) (xs : List Int) (v2 : Value) (ys : List Int) (w : World) (h1 : RowOf iV w v1 xs) (h2 : RowOf iV w v2 ys) :
    Calls Try.prog 141 #[v1, v2] w fun e w' => e = .returned (.bool (listB xs ys)) ∧ Below w.heap.size w w' := by
  obtain ⟨a1, c1, rfl, hc1, hm1, hr1⟩ := h1
  obtain ⟨a2, c2, rfl, hc2, hm2, hr2⟩ := h2
  unfold maxLen at hm1 hm2
  have R1 := Lib.hid hr1
  have R2 := Lib.hid hr2
  clear hr1 hr2
  obtain ⟨n, hn⟩ : ∃ n, xs.length = n := ⟨_, rfl⟩
  obtain ⟨m, hm⟩ : ∃ n, ys.length = n := ⟨_, rfl⟩
  rw [hn] at hc1 ⊢
  rw [hm] at hc2 ⊢
  have HN := Lib.hid hn
  have HM := Lib.hid hm
  clear hn hm
  by_cases hnm : n = m
  · subst hnm
    have hneq : ((n : Int) != (n : Int)) = false := by simp
    go_enter Try.func141, Try.ntmps141
    go_wp2
    go_loopw [5, 13] (fun u i wr => ∃ k : Nat, k ≤ n ∧ i = .int .i64 k ∧ Hid (∀ j, j < k → xs[j]? = ys[j]?) ∧ ∃ q, wr = w.drewN q) (fun _ i _ => n - (intOf i).toNat)
    case atStart => exact ⟨0, Nat.zero_le _, rfl, fun j hj => absurd hj (Nat.not_lt_zero _), 0, rfl⟩
    case round =>
      obtain ⟨k, hk, rfl, HA, q, rfl⟩ := hrel
      by_cases hlt : k < n
      · obtain ⟨b1, o1, rfl, hx1⟩ := R1.out k (by rw [HN.out]; exact hlt)
        obtain ⟨b2, o2, rfl, hx2⟩ := R2.out k (by rw [HM.out]; exact hlt)
        clear R1 R2
        obtain ⟨s, hs⟩ : ∃ s, xs[k]'(by rw [HN.out]; exact hlt) = s := ⟨_, rfl⟩
        obtain ⟨t, ht⟩ : ∃ s, ys[k]'(by rw [HM.out]; exact hlt) = s := ⟨_, rfl⟩
        rw [hs] at hx1
        rw [ht] at hx2
        unfold iV at hx1 hx2
        have HS := Lib.hid (show xs[k]? = some s by rw [List.getElem?_eq_getElem (by rw [HN.out]; exact hlt), hs])
        have HT := Lib.hid (show ys[k]? = some t by rw [List.getElem?_eq_getElem (by rw [HM.out]; exact hlt), ht])
        clear hs ht
        by_cases hst : s = t
        · subst hst
          have hb : (s != s) = false := by simp
          have HA2 : Hid (∀ j, j < k + 1 → xs[j]? = ys[j]?) := fun j hj => by
            rcases Nat.lt_or_ge j k with h | h
            · exact HA.out j h
            · obtain rfl : j = k := by omega
              rw [HS.out, HT.out]
          go_wp2
          go_region
          go_wp2
          go_roundw
          case rel => exact ⟨k + 1, by omega, by go_num, HA2, q + 1, rfl⟩
          case measure => simp [intOf]; omega
        · have hb : (s != t) = true := by simp; exact hst
          have HF := Lib.hid (listB_at (xs := xs) (ys := ys) (k := k) (by rw [HS.out, HT.out]; simp; exact hst))
          clear hst
          go_wp2
          go_region
          go_wp2
          go_ret
          exact ⟨ret_bool (HF.out.symm), below_drewN (Below.refl _ _) _⟩
      · obtain rfl : k = n := by omega
        have HF := Lib.hid (listB_all HA.out HN.out HM.out)
        go_wp2
        go_ret
        exact ⟨ret_bool (HF.out.symm), below_drewN (Below.refl _ _) _⟩
  · have HF := Lib.hid (listB_len (xs := xs) (ys := ys) (by rw [HN.out, HM.out]; exact hnm))
    have hneq : ((n : Int) != (m : Int)) = true := by simp; omega
    go_enter Try.func141, Try.ntmps141
    go_wp2
    go_ret
    exact ⟨ret_bool (HF.out.symm), Below.refl _ _⟩

def ratEqB (b1 : Bool) (xs ds : List Int) (b2 : Bool) (ys es : List Int) : Bool := (b1 == b2) && listB xs ys && listB ds es
set_option maxHeartbeats 400000 in
theorem spec_ratEqual (b1 : Bool) (v1 : Value) (xs : List Int) (d1 : Value) (ds : List Int) (b2 : Bool) (v2 : Value) (ys : List Int) (d2 : Value) (es : List Int) (w : World) (h1 : RowOf iV w v1 xs) (g1 : RowOf iV w d1 ds) (h2 : RowOf iV w v2 ys) (g2 : RowOf iV w d2 es) :
    Calls Try.prog 110 #[.agg #[.bool b1, v1, d1], .agg #[.bool b2, v2, d2]] w fun e w' => e = .returned (.bool (ratEqB b1 xs ds b2 ys es)) ∧ Below w.heap.size w w' := by
  have bA := ((Below.refl w.heap.size w).alloc (Nat.le_refl _) (.cells #[.bool b1, v1, d1] 42)).alloc (by simp) (.cells #[.bool b2, v2, d2] 42)
  have D1 := (Rx.new w 42 b1 v1 d1).alloc (.cells #[.bool b2, v2, d2] 42)
  have D2 := rx_at (Rx.new (w.alloc (.cells #[.bool b1, v1, d1] 42)) 42 b2 v2 d2) (show w.heap.size + 1 = _ by simp)
  have H := Lib.hid (fun W (hW : Below w.heap.size w W) => spec_l04List v1 xs v2 ys W (rowOf_below h1 hW) (rowOf_below h2 hW))
  have K := Lib.hid (fun W (hW : Below w.heap.size w W) => spec_l04List d1 ds d2 es W (rowOf_below g1 hW) (rowOf_below g2 hW))
  obtain ⟨a1, c1, rfl, x1, x2, x3⟩ := h1
  obtain ⟨a2, c2, rfl, x4, x5, x6⟩ := h2
  obtain ⟨a3, c3, rfl, x7, x8, x9⟩ := g1
  obtain ⟨a4, c4, rfl, y1, y2, y3⟩ := g2
  clear x1 x2 x3 x4 x5 x6 x7 x8 x9 y1 y2 y3
  by_cases hb : b1 = b2
  · subst hb
    have hbb : (b1 == b1) = true := by simp
    cases e1 : listB xs ys with
    | false =>
      rw [e1] at H
      have HF := Lib.hid (show ratEqB b1 xs ds b1 ys es = false by unfold ratEqB; rw [e1]; simp)
      clear e1 D1 D2
      go_enter Try.func110, Try.ntmps110
      go_wp2_with fail
      refine (H.out _ bA).mono ?_
      rintro e w1 ⟨rfl, k1⟩
      have BA := Lib.hid (bA.trans (k1.mono (by simp; omega)))
      clear bA k1
      go_wp2
      go_ret
      exact ⟨ret_bool (HF.out.symm), BA.out⟩
    | true =>
      rw [e1] at H
      have HF := Lib.hid (show ratEqB b1 xs ds b1 ys es = listB ds es by unfold ratEqB; rw [e1]; simp)
      clear e1
      go_enter Try.func110, Try.ntmps110
      go_wp2_with fail
      refine (H.out _ bA).mono ?_
      rintro e w1 ⟨rfl, k1⟩
      have BA := Lib.hid (bA.trans (k1.mono (by simp; omega)))
      have f1 := (D1.below k1).c2
      have f2 := (D2.below k1).c2
      clear bA k1 D1 D2
      go_wp2_with fail
      clear f1 f2
      refine (K.out _ BA.out).mono ?_
      rintro e w2 ⟨rfl, k2⟩
      have BB := Lib.hid (BA.out.trans (k2.mono BA.out.size))
      clear k2
      go_wp2
      go_ret
      exact ⟨ret_bool (HF.out.symm), BB.out⟩
  · have hbb : (b1 == b2) = false := by simpa using hb
    have HF := Lib.hid (show ratEqB b1 xs ds b2 ys es = false by unfold ratEqB; rw [hbb]; simp)
    clear hb D1 D2
    go_enter Try.func110, Try.ntmps110
    go_wp2
    go_ret
    exact ⟨ret_bool (HF.out.symm), bA⟩

end Go.Proofs.Ytojklmckjebplaa
