/- BigIntOk of the program and of the model; the exact law of BigIntOk. -/
import Derived.Test.YtofmpfcbdemcnaaDoorBig
namespace Go.Proofs.YtofmpfcbdemcnaaDoor
set_option maxRecDepth 100000
open Go.RowKit

/-- a sign and a list that are a number: a natural number, and no sign at 0 -/
def bigOk (b : Bool) (zs : List Int) : Bool := okB zs && (!b || decide (0 < zs.length))
theorem bigOk_no {b : Bool} {zs : List Int} (h : okB zs = false) : bigOk b zs = false := by unfold bigOk; rw [h]; rfl
theorem bigOk_plain {zs : List Int} (h : okB zs = true) : bigOk false zs = true := by unfold bigOk; rw [h]; rfl
theorem bigOk_neg {zs : List Int} (h : okB zs = true) : bigOk true zs = decide (0 < zs.length) := by unfold bigOk; rw [h]; rfl
theorem bigOk_ok {b : Bool} {zs : List Int} (h : bigOk b zs = true) : okB zs = true := by
  unfold bigOk at h
  rw [Bool.and_eq_true] at h
  exact h.1
theorem bigOk_pos {zs : List Int} (h : bigOk true zs = true) : 0 < zs.length := by
  rw [bigOk_neg (bigOk_ok h)] at h
  simpa using h

set_option maxHeartbeats 400000 in
theorem spec_bigOk (b : Bool) (va : Value) (zs : List Int) (w : World) (ha : RowOf iV w va zs) :
    Calls Tryd.prog 52 #[.agg #[.bool b, va]] w fun e w' => e = .returned (.bool (bigOk b zs)) ∧ w' = w.alloc (.cells #[.bool b, va] 43) := by
  have K0 := Lib.hid (fun W (hW : Below w.heap.size w W) => spec_natOk va zs W (rowOf_below ha hW))
  obtain ⟨a, c, rfl, h1, h2, h3⟩ := ha
  clear h1 h3
  unfold maxLen at h2
  have bA := (Below.refl w.heap.size w).alloc (Nat.le_refl _) (.cells #[.bool b, .slice a zs.length c] 43)
  cases e0 : okB zs with
  | false =>
    have HE := Lib.hid (bigOk_no (b := b) e0)
    rw [e0] at K0
    clear e0
    go_enter Tryd.func52, Tryd.ntmps52
    go_wp2_with (go_at_call 47; refine (K0.out _ bA).mono ?_; rintro e w' ⟨rfl, rfl⟩)
    go_ret
    exact ⟨ret_bool (by rw [HE.out]), rfl⟩
  | true =>
    rw [e0] at K0
    cases b with
    | false =>
      have HE := Lib.hid (bigOk_plain e0)
      clear e0
      go_enter Tryd.func52, Tryd.ntmps52
      go_wp2_with (go_at_call 47; refine (K0.out _ bA).mono ?_; rintro e w' ⟨rfl, rfl⟩)
      go_ret
      exact ⟨ret_bool (by rw [HE.out]), rfl⟩
    | true =>
      have HE := bigOk_neg e0
      clear e0
      by_cases h0 : 0 < zs.length
      · rw [decide_eq_true h0] at HE
        have HE := Lib.hid HE
        go_enter Tryd.func52, Tryd.ntmps52
        go_wp2_with (go_at_call 47; refine (K0.out _ bA).mono ?_; rintro e w' ⟨rfl, rfl⟩)
        go_ret
        exact ⟨ret_bool (by rw [HE.out]), rfl⟩
      · rw [decide_eq_false h0] at HE
        have HE := Lib.hid HE
        have hz : zs.length = 0 := by omega
        rw [hz] at K0 bA ⊢
        clear h0 h2
        go_enter Tryd.func52, Tryd.ntmps52
        go_wp2_with (go_at_call 47; refine (K0.out _ bA).mono ?_; rintro e w' ⟨rfl, rfl⟩)
        go_ret
        exact ⟨ret_bool (by rw [HE.out]), rfl⟩
theorem spec_bigOkB (b : Bool) (va : Value) (zs : List Int) (w : World) (ha : RowOf iV w va zs) :
    Calls Tryd.prog 52 #[.agg #[.bool b, va]] w fun e w' => e = .returned (.bool (bigOk b zs)) ∧ Below w.heap.size w w' :=
  (spec_bigOk b va zs w ha).mono fun _ _ ⟨he, hw⟩ => ⟨he, by rw [hw]; exact (Below.refl _ _).alloc (Nat.le_refl _) _⟩

set_option maxHeartbeats 400000 in
theorem impl_bigOk (b : Bool) (va : Value) (zs : List Int) (w : World) (ha : RowOf iV w va zs) :
    Calls Tryd.prog 53 #[.agg #[.bool b, va]] w fun e w' => e = .returned (.bool (bigOk b zs)) ∧ w' = w.alloc (.cells #[.bool b, va] 43) := by
  have K0 := Lib.hid (fun W (hW : Below w.heap.size w W) => impl_natOk va zs W (rowOf_below ha hW))
  obtain ⟨a, c, rfl, h1, h2, h3⟩ := ha
  clear h1 h3
  unfold maxLen at h2
  have bA := (Below.refl w.heap.size w).alloc (Nat.le_refl _) (.cells #[.bool b, .slice a zs.length c] 43)
  cases e0 : okB zs with
  | false =>
    have HE := Lib.hid (bigOk_no (b := b) e0)
    rw [e0] at K0
    clear e0
    go_enter Tryd.func53, Tryd.ntmps53
    go_wp2_with (go_at_call 35; refine (K0.out _ bA).mono ?_; rintro e w' ⟨rfl, rfl⟩)
    go_ret
    exact ⟨ret_bool (by rw [HE.out]), rfl⟩
  | true =>
    rw [e0] at K0
    cases b with
    | false =>
      have HE := Lib.hid (bigOk_plain e0)
      clear e0
      go_enter Tryd.func53, Tryd.ntmps53
      go_wp2_with (go_at_call 35; refine (K0.out _ bA).mono ?_; rintro e w' ⟨rfl, rfl⟩)
      go_ret
      exact ⟨ret_bool (by rw [HE.out]), rfl⟩
    | true =>
      have HE := bigOk_neg e0
      clear e0
      by_cases h0 : 0 < zs.length
      · rw [decide_eq_true h0] at HE
        have HE := Lib.hid HE
        go_enter Tryd.func53, Tryd.ntmps53
        go_wp2_with (go_at_call 35; refine (K0.out _ bA).mono ?_; rintro e w' ⟨rfl, rfl⟩)
        go_ret
        exact ⟨ret_bool (by rw [HE.out]), rfl⟩
      · rw [decide_eq_false h0] at HE
        have HE := Lib.hid HE
        have hz : zs.length = 0 := by omega
        rw [hz] at K0 bA ⊢
        clear h0 h2
        go_enter Tryd.func53, Tryd.ntmps53
        go_wp2_with (go_at_call 35; refine (K0.out _ bA).mono ?_; rintro e w' ⟨rfl, rfl⟩)
        go_ret
        exact ⟨ret_bool (by rw [HE.out]), rfl⟩
theorem impl_bigOkB (b : Bool) (va : Value) (zs : List Int) (w : World) (ha : RowOf iV w va zs) :
    Calls Tryd.prog 53 #[.agg #[.bool b, va]] w fun e w' => e = .returned (.bool (bigOk b zs)) ∧ Below w.heap.size w w' :=
  (impl_bigOk b va zs w ha).mono fun _ _ ⟨he, hw⟩ => ⟨he, by rw [hw]; exact (Below.refl _ _).alloc (Nat.le_refl _) _⟩

end Go.Proofs.YtofmpfcbdemcnaaDoor
