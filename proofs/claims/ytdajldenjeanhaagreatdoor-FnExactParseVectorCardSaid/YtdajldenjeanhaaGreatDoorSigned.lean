/- Signed: BigOk BigMake BigAdd BigOps. -/
import Derived.Test.YtdajldenjeanhaaGreatDoorBase
import Derived.Test.YtdajldenjeanhaaGreatDoorQuot
import Derived.Deep.CutBlock
import Derived.Deep.CutRange
import Derived.Test.YtdajldenjeanhaaGreatDoorSums
import Derived.Deep.RegionHeld3
/-! BigOk -/
namespace Go.Proofs.YtdajldenjeanhaaGreatDoor
set_option maxRecDepth 100000
set_option linter.unusedVariables false
set_option linter.unusedSimpArgs false
set_option maxRecDepth 100000
open Go.RowKit

/-- a sign and a list that are a number: a natural number, and no sign at 0 -/
def bigOk (b : Bool) (zs : List Int) : Bool := okB zs && (!b || decide (0 < zs.length))
theorem bigOk_no {b : Bool} {zs : List Int} (h : okB zs = false) : bigOk b zs = false := by unfold bigOk; rw [h]; rfl
theorem bigOk_plain {zs : List Int} (h : okB zs = true) : bigOk false zs = true := by unfold bigOk; rw [h]; rfl
theorem bigOk_neg {zs : List Int} (h : okB zs = true) : bigOk true zs = decide (0 < zs.length) := by unfold bigOk; rw [h]; rfl
theorem bigOk_ok {b : Bool} {zs : List Int} (h : bigOk b zs = true) : okB zs = true := by
  unfold bigOk at h
  rw [Bool.and_eq_true] at h
  exact h.1
theorem bigOk_pos {zs : List Int} (h : bigOk true zs = true) : 0 < zs.length := by
  rw [bigOk_neg (bigOk_ok h)] at h
  simpa using h

set_option maxHeartbeats 400000 in
theorem spec_bigOk (b : Bool) (va : Value) (zs : List Int) (w : World) (ha : RowOf iV w va zs) :
    Calls Tryz.prog 49 #[.agg #[.bool b, va]] w fun e w' => e = .returned (.bool (bigOk b zs)) ∧ w' = w.alloc (.cells #[.bool b, va] 41) := by
  have K0 := Lib.hid (fun W (hW : Below w.heap.size w W) => spec_natOk va zs W (rowOf_below ha hW))
  obtain ⟨a, c, rfl, h1, h2, h3⟩ := ha
  clear h1 h3
  unfold maxLen at h2
  have bA := (Below.refl w.heap.size w).alloc (Nat.le_refl _) (.cells #[.bool b, .slice a zs.length c] 41)
  cases e0 : okB zs with
  | false =>
    have HE := Lib.hid (bigOk_no (b := b) e0)
    rw [e0] at K0
    clear e0
    go_enter Tryz.func49, Tryz.ntmps49
    go_wp2_with (go_at_call 50; refine (K0.out _ bA).mono ?_; rintro e w' ⟨rfl, rfl⟩)
    go_ret
    exact ⟨ret_bool (by rw [HE.out]), rfl⟩
  | true =>
    rw [e0] at K0
    cases b with
    | false =>
      have HE := Lib.hid (bigOk_plain e0)
      clear e0
      go_enter Tryz.func49, Tryz.ntmps49
      go_wp2_with (go_at_call 50; refine (K0.out _ bA).mono ?_; rintro e w' ⟨rfl, rfl⟩)
      go_ret
      exact ⟨ret_bool (by rw [HE.out]), rfl⟩
    | true =>
      have HE := bigOk_neg e0
      clear e0
      by_cases h0 : 0 < zs.length
      · rw [decide_eq_true h0] at HE
        have HE := Lib.hid HE
        go_enter Tryz.func49, Tryz.ntmps49
        go_wp2_with (go_at_call 50; refine (K0.out _ bA).mono ?_; rintro e w' ⟨rfl, rfl⟩)
        go_ret
        exact ⟨ret_bool (by rw [HE.out]), rfl⟩
      · rw [decide_eq_false h0] at HE
        have HE := Lib.hid HE
        have hz : zs.length = 0 := by omega
        rw [hz] at K0 bA ⊢
        clear h0 h2
        go_enter Tryz.func49, Tryz.ntmps49
        go_wp2_with (go_at_call 50; refine (K0.out _ bA).mono ?_; rintro e w' ⟨rfl, rfl⟩)
        go_ret
        exact ⟨ret_bool (by rw [HE.out]), rfl⟩
theorem spec_bigOkB (b : Bool) (va : Value) (zs : List Int) (w : World) (ha : RowOf iV w va zs) :
    Calls Tryz.prog 49 #[.agg #[.bool b, va]] w fun e w' => e = .returned (.bool (bigOk b zs)) ∧ Below w.heap.size w w' :=
  (spec_bigOk b va zs w ha).mono fun _ _ ⟨he, hw⟩ => ⟨he, by rw [hw]; exact (Below.refl _ _).alloc (Nat.le_refl _) _⟩

set_option maxHeartbeats 400000 in
theorem impl_bigOk (b : Bool) (va : Value) (zs : List Int) (w : World) (ha : RowOf iV w va zs) :
    Calls Tryz.prog 55 #[.agg #[.bool b, va]] w fun e w' => e = .returned (.bool (bigOk b zs)) ∧ w' = w.alloc (.cells #[.bool b, va] 41) := by
  have K0 := Lib.hid (fun W (hW : Below w.heap.size w W) => impl_natOk va zs W (rowOf_below ha hW))
  obtain ⟨a, c, rfl, h1, h2, h3⟩ := ha
  clear h1 h3
  unfold maxLen at h2
  have bA := (Below.refl w.heap.size w).alloc (Nat.le_refl _) (.cells #[.bool b, .slice a zs.length c] 41)
  cases e0 : okB zs with
  | false =>
    have HE := Lib.hid (bigOk_no (b := b) e0)
    rw [e0] at K0
    clear e0
    go_enter Tryz.func55, Tryz.ntmps55
    go_wp2_with (go_at_call 56; refine (K0.out _ bA).mono ?_; rintro e w' ⟨rfl, rfl⟩)
    go_ret
    exact ⟨ret_bool (by rw [HE.out]), rfl⟩
  | true =>
    rw [e0] at K0
    cases b with
    | false =>
      have HE := Lib.hid (bigOk_plain e0)
      clear e0
      go_enter Tryz.func55, Tryz.ntmps55
      go_wp2_with (go_at_call 56; refine (K0.out _ bA).mono ?_; rintro e w' ⟨rfl, rfl⟩)
      go_ret
      exact ⟨ret_bool (by rw [HE.out]), rfl⟩
    | true =>
      have HE := bigOk_neg e0
      clear e0
      by_cases h0 : 0 < zs.length
      · rw [decide_eq_true h0] at HE
        have HE := Lib.hid HE
        go_enter Tryz.func55, Tryz.ntmps55
        go_wp2_with (go_at_call 56; refine (K0.out _ bA).mono ?_; rintro e w' ⟨rfl, rfl⟩)
        go_ret
        exact ⟨ret_bool (by rw [HE.out]), rfl⟩
      · rw [decide_eq_false h0] at HE
        have HE := Lib.hid HE
        have hz : zs.length = 0 := by omega
        rw [hz] at K0 bA ⊢
        clear h0 h2
        go_enter Tryz.func55, Tryz.ntmps55
        go_wp2_with (go_at_call 56; refine (K0.out _ bA).mono ?_; rintro e w' ⟨rfl, rfl⟩)
        go_ret
        exact ⟨ret_bool (by rw [HE.out]), rfl⟩
theorem impl_bigOkB (b : Bool) (va : Value) (zs : List Int) (w : World) (ha : RowOf iV w va zs) :
    Calls Tryz.prog 55 #[.agg #[.bool b, va]] w fun e w' => e = .returned (.bool (bigOk b zs)) ∧ Below w.heap.size w w' :=
  (impl_bigOk b va zs w ha).mono fun _ _ ⟨he, hw⟩ => ⟨he, by rw [hw]; exact (Below.refl _ _).alloc (Nat.le_refl _) _⟩

end Go.Proofs.YtdajldenjeanhaaGreatDoor

/-! BigMake -/
namespace Go.Proofs.YtdajldenjeanhaaGreatDoor
set_option maxRecDepth 100000
set_option linter.unusedVariables false
set_option linter.unusedSimpArgs false
open Go.RowKit Go.WideShapes

/-- 'v[:k]' of a row -/
theorem RowOf.take {f : Int → Value} {w : World} {a : Option Addr} {n c : Nat} {l : List Int} (h : RowOf f w (.slice a n c) l) {k : Nat} (hk : k ≤ n) : RowOf f w (.slice a k c) (l.take k) := by
  obtain ⟨a', c', e, h1, h2, h3⟩ := h
  injection e with e1 e2 e3
  subst e1 e2 e3
  refine ⟨_, _, by rw [List.length_take, Nat.min_eq_left hk], by rw [List.length_take]; omega, h2, fun i hi => ?_⟩
  rw [List.length_take] at hi
  obtain ⟨b, o, e, hx⟩ := h3 i (by omega)
  exact ⟨b, o, e, by rw [hx, List.getElem_take]⟩
theorem row_none (w : World) (f : Int → Value) : RowOf f w (.slice none 0 0) [] := ⟨none, 0, rfl, Nat.le_refl _, by unfold maxLen; omega, fun i hi => by simp at hi⟩

set_option maxHeartbeats 400000 in
theorem spec_trimR (v : Value) (T n : Nat) (w : World) (h : RowOf iV w v (listF n (digF T))) (hT : nlen T ≤ n) :
    Calls Tryz.prog 61 #[v] w fun e w' => ∃ v', e = .returned v' ∧ RowOf iV w v' (limI T) ∧ w' = w := by
  obtain ⟨a, c, rfl, h1, hcm, hr⟩ := id h
  rw [listF_length] at h1 h ⊢
  unfold maxLen at hcm
  have H := Lib.hid h
  have HR := Lib.hid hr
  clear h hr
  by_cases hn : n = 0
  · have HT : Hid (limI T = []) := by
      unfold Hid
      have : nlen T = 0 := by omega
      unfold limI; rw [this]; rfl
    subst hn
    go_enter Tryz.func61, Tryz.ntmps61
    go_wp2
    go_loop [3] (fun sv => sv = .int .i64 0) (fun _ => 0)
    case atStart => rfl
    case round =>
      subst hrel
      go_wp2
      go_ret
      exact ⟨_, rfl, by rw [HT.out]; exact H.out, rfl⟩
  · obtain ⟨b, o, rfl, _⟩ := HR.out 0 (by rw [listF_length]; omega)
    go_enter Tryz.func61, Tryz.ntmps61
    go_wp2
    go_loop [3] (fun sv => ∃ k : Nat, k ≤ n ∧ nlen T ≤ k ∧ sv = .int .i64 k) (fun sv => (intOf sv).toNat)
    case atStart => exact ⟨n, Nat.le_refl _, hT, rfl⟩
    case round =>
      obtain ⟨k, hk, hTk, rfl⟩ := hrel
      by_cases hp : 0 < k
      · obtain ⟨b', o', e', hcl⟩ := HR.out (k - 1) (by rw [listF_length]; omega)
        injection e' with e'
        injection e' with e1 e2
        subst e1 e2
        rw [listF_get] at hcl
        unfold digF iV at hcl
        have e1 : ((k : Int) - 1).toNat = k - 1 := by omega
        have HM := Lib.hid (trim_more hTk hp)
        have HD := Lib.hid (trim_done hTk hp)
        obtain ⟨d, hd⟩ : ∃ d, dig T (k - 1) = d := ⟨_, rfl⟩
        rw [hd] at hcl HM HD
        clear hd
        by_cases h0 : d = 0
        · have HM2 := Lib.hid (HM.out h0)
          subst h0
          go_wp2
          go_round
          case rel => exact ⟨k - 1, by omega, HM2.out, by go_num⟩
          case measure => simp [intOf]; omega
        · have HD2 := Lib.hid (HD.out h0)
          have hb : ((d : Int) == 0) = false := by simp; exact h0
          clear h0
          go_wp2
          go_ret
          refine ⟨_, rfl, ?_, rfl⟩
          have := H.out.take hk
          rw [HD2.out, limI_take (by have := HD2.out; omega)] at this
          have e := HD2.out
          rw [← e] at this
          exact this
      · obtain rfl : k = 0 := by omega
        have HT : Hid (limI T = []) := by
          unfold Hid
          have : nlen T = 0 := by omega
          unfold limI; rw [this]; rfl
        go_wp2
        go_ret
        refine ⟨_, rfl, ?_, rfl⟩
        have := H.out.take (Nat.zero_le _)
        rw [List.take_zero] at this
        rw [HT.out]
        exact this

/-- the sign that a number with these limbs bears -/
def sgB (b : Bool) (l : List Int) : Bool := b && decide (0 < l.length)
theorem sgB_plain (l : List Int) : sgB false l = false := rfl
theorem sgB_nil (b : Bool) : sgB b [] = false := by unfold sgB; simp
theorem sgB_pos {b : Bool} {l : List Int} (h : 0 < l.length) : sgB b l = b := by unfold sgB; rw [decide_eq_true h]; simp

/-- 'copy(own, limbs)' into a row of the call's own of the same length -/
theorem copy_ints {ops : Array Oper} {rest : List Oper} {o : Oper} {a : Act} {Q : Exit → Act → World → Prop} {w : World} (hgd : o.guard = none) (d s : Operand) (T1 T2 : TypeId) (hT : Tryz.prog.underlying T1 = some (.slice 3))
    (ho : o.op = .call { callee := .builtin .copy, args := #[d, s], argTypes := #[T1, T2] }) (g n B : Nat) (v : Value) (l l0 : List Int) (hd : a.eval d = .slice (some ⟨g, 0, none⟩) n n) (hs : a.eval s = v)
    (hO : OwnI w B (.slice (some ⟨g, 0, none⟩) n n) l0) (hr : RowOf iV w v l) (hl : l.length = n) (hn : n ≤ 1099511627776) (hB : B ≤ g)
    (h : ∀ w' x, OwnI w' B (.slice (some ⟨g, 0, none⟩) n n) l → w.grownBy w' (some g) → wpList Tryz.prog ops Q rest (a.put o.dst x) w') : wpList Tryz.prog ops Q (o :: rest) a w := by
  obtain ⟨i0, hi, hz0, hz1, hz2⟩ := info_parts info_int
  obtain ⟨ax, c, rfl, hc, hm, hcell⟩ := hr
  have hl0 : l0.length = n := by
    have := hO.len
    simpa using this
  refine wpList_plain hgd fun K hK => ?_
  cases ax with
  | none =>
    have hl2 : l = [] := by
      cases l with
      | nil => rfl
      | cons y r => obtain ⟨b, o, e, _⟩ := hcell 0 (by simp); cases e
    subst hl2
    obtain rfl : n = 0 := by simpa using hl.symm
    obtain rfl : l0 = [] := List.eq_nil_of_length_eq_zero hl0
    have hrun : (Builtin.copy_ #[T1, T2] o.type #[.slice (some ⟨g, 0, none⟩) 0 0, .slice none 0 c]).run Tryz.prog w = .ok (goInt 0) w := by
      simp [Builtin.copy_, run_underlying hT, sizeOf, typeInfo, hi, Builtin.lenOf, Builtin.firstCells, storeCells]
    unfold Oper.wp
    simp only [List.length_nil] at hs
    simp [execOp, ho, resolve, invoke, builtin, hd, hs, hrun, Result.andThen]
    exact hK _ _ (h w _ hO (grownBy_refl _ _))
  | some ad =>
    have hrun := run_copy_row (P := Tryz.prog) w T1 T2 o.type 3 g 0 n n ad l.length c (l0.map iV).toArray 3 (l.map iV) hT (by simp [hi, hz1]) (ownI_heap hO)
      (by rw [List.length_map, hl]; exact (Nat.min_self n).symm)
      (fun j u hj => by
        obtain ⟨hj1, hj2⟩ := List.getElem?_eq_some_iff.1 hj
        rw [List.length_map] at hj1
        obtain ⟨b, o', e, hx'⟩ := hcell j hj1
        injection e with e
        subst e
        rw [add_plain, hx', ← hj2]
        simp)
      (by simp [hl, hl0]) (fun u hu => by
        obtain ⟨z, _, rfl⟩ := List.mem_map.1 hu
        rfl)
    have e : (((l0.map iV).toArray.toList.take 0 ++ l.map iV ++ (l0.map iV).toArray.toList.drop (0 + (l.map iV).length)).toArray) = (l.map iV).toArray := by
      have : (l0.map iV).toArray.toList.drop (0 + (l.map iV).length) = [] := by
        apply List.drop_of_length_le
        simp [hl, hl0]
      rw [this]; simp
    rw [e] at hrun
    unfold Oper.wp
    simp [execOp, ho, resolve, invoke, builtin, hd, hs, hrun, Result.andThen]
    exact hK _ _ (h (w.setRow g (l.map iV).toArray) _ (heap_ownI (setRow_heap w g _ _ _ _ (ownI_heap hO)) hB hl (by unfold maxLen; omega)) (setRow_grown _ _ _))

end Go.Proofs.YtdajldenjeanhaaGreatDoor

/-! BigAdd -/
namespace Go.Proofs.YtdajldenjeanhaaGreatDoor
set_option maxRecDepth 100000
set_option linter.unusedVariables false
set_option linter.unusedSimpArgs false
open Go.RowKit

/-- sign and magnitude of a sum -/
def sgAddB (b0 : Bool) (x : Nat) (b1 : Bool) (y : Nat) : Bool := if b0 = b1 then b0 else if y ≤ x then b0 else b1
def sgAddN (b0 : Bool) (x : Nat) (b1 : Bool) (y : Nat) : Nat := if b0 = b1 then x + y else if y ≤ x then x - y else y - x
theorem sgAdd_same (b : Bool) (x y : Nat) : sgAddB b x b y = b ∧ sgAddN b x b y = x + y := by unfold sgAddB sgAddN; simp
theorem sgAdd_left {b0 b1 : Bool} (h : b0 ≠ b1) {x y : Nat} (hxy : y ≤ x) : sgAddB b0 x b1 y = b0 ∧ sgAddN b0 x b1 y = x - y := by unfold sgAddB sgAddN; rw [if_neg h, if_neg h, if_pos hxy, if_pos hxy]; exact ⟨rfl, rfl⟩
theorem sgAdd_right {b0 b1 : Bool} (h : b0 ≠ b1) {x y : Nat} (hxy : ¬ y ≤ x) : sgAddB b0 x b1 y = b1 ∧ sgAddN b0 x b1 y = y - x := by unfold sgAddB sgAddN; rw [if_neg h, if_neg h, if_neg hxy, if_neg hxy]; exact ⟨rfl, rfl⟩
theorem ret_agg {a b : Bool} {v : Value} (h : a = b) : Ending.returned (.agg #[.bool a, v]) = .returned (.agg #[.bool b, v]) := by rw [h]
theorem cmp_geq {x y : Nat} : (0 ≤ cmpN x y) ↔ y ≤ x := by unfold cmpN; split <;> (try split) <;> omega
theorem cmp_gtr {x y : Nat} : (0 < cmpN x y) ↔ y < x := by unfold cmpN; split <;> (try split) <;> omega
/-- limbs, as a row that may have zeros at its end -/
theorem row_limF {w : World} {v : Value} {x : Nat} (h : RowOf iV w v (limI x)) : RowOf iV w v (listF (nlen x) (digF x)) := h
/-- what stands behind the last store of a signed result -/
theorem big_end {w wn : World} {p B : Nat} {v : Value} {l : List Int} (hB : Below w.heap.size w wn) (ho : OwnI wn B v l) (hp : p < B) (h1 : w.heap.size ≤ B) (h2 : w.heap.size ≤ p) (x y : Value) :
    OwnI ((wn.setCell ⟨p, 0, none⟩ x).setCell ⟨p, 1, none⟩ y) w.heap.size v l ∧ Below w.heap.size w ((wn.setCell ⟨p, 0, none⟩ x).setCell ⟨p, 1, none⟩ y) :=
  ⟨((ho.old hp 0 x).old hp 1 y).base h1, (hB.setCell h2 x).setCell h2 y⟩

end Go.Proofs.YtdajldenjeanhaaGreatDoor

/-! BigOps -/
namespace Go.Proofs.YtdajldenjeanhaaGreatDoor
set_option maxRecDepth 100000
set_option linter.unusedVariables false
set_option linter.unusedSimpArgs false
open Go.RowKit

def bigNegL (b0 : Bool) (zs0 : List Int) : List Int := if bigOk b0 zs0 then capL ((natI zs0)) else []
def bigNegB (b0 : Bool) (zs0 : List Int) : Bool := if bigOk b0 zs0 then sgB (!b0) (capL ((natI zs0))) else false
theorem bigNegL_len (b0 : Bool) (zs0 : List Int) : (bigNegL b0 zs0).length ≤ 1000 := by
  unfold bigNegL
  split
  · have := capL_len ((natI zs0)); omega
  · simp
theorem bigNeg_yes {b0 : Bool} {x : Nat} (h0 : bigOk b0 (limI x) = true) : bigNegB b0 (limI x) = sgB (!b0) (capL (x)) ∧ bigNegL b0 (limI x) = capL (x) := by
  unfold bigNegB bigNegL; rw [h0, natI_limI]; exact ⟨rfl, rfl⟩
theorem bigNeg_no {b0 : Bool} {zs0 : List Int} (h : bigOk b0 zs0 = false) : bigNegB b0 zs0 = false ∧ bigNegL b0 zs0 = [] := by
  unfold bigNegB bigNegL; rw [h]; simp

def bigAddL (b0 : Bool) (zs0 : List Int) (b1 : Bool) (zs1 : List Int) : List Int := if bigOk b0 zs0 && bigOk b1 zs1 then capL (sgAddN b0 (natI zs0) b1 (natI zs1)) else []
def bigAddB (b0 : Bool) (zs0 : List Int) (b1 : Bool) (zs1 : List Int) : Bool := if bigOk b0 zs0 && bigOk b1 zs1 then sgB (sgAddB b0 (natI zs0) b1 (natI zs1)) (capL (sgAddN b0 (natI zs0) b1 (natI zs1))) else false
theorem bigAddL_len (b0 : Bool) (zs0 : List Int) (b1 : Bool) (zs1 : List Int) : (bigAddL b0 zs0 b1 zs1).length ≤ 1000 := by
  unfold bigAddL
  split
  · have := capL_len (sgAddN b0 (natI zs0) b1 (natI zs1)); omega
  · simp
theorem bigAdd_yes {b0 b1 : Bool} {x y : Nat} (h0 : bigOk b0 (limI x) = true) (h1 : bigOk b1 (limI y) = true) : bigAddB b0 (limI x) b1 (limI y) = sgB (sgAddB b0 x b1 y) (capL (sgAddN b0 x b1 y)) ∧ bigAddL b0 (limI x) b1 (limI y) = capL (sgAddN b0 x b1 y) := by
  unfold bigAddB bigAddL; rw [h0, h1, natI_limI, natI_limI]; exact ⟨rfl, rfl⟩
theorem bigAdd_no {b0 b1 : Bool} {zs0 zs1 : List Int} (h : bigOk b0 zs0 = false ∨ bigOk b1 zs1 = false) : bigAddB b0 zs0 b1 zs1 = false ∧ bigAddL b0 zs0 b1 zs1 = [] := by
  unfold bigAddB bigAddL; rcases h with h | h <;> rw [h] <;> simp

def bigSubL (b0 : Bool) (zs0 : List Int) (b1 : Bool) (zs1 : List Int) : List Int := if bigOk b0 zs0 && bigOk b1 zs1 then capL (sgAddN b0 (natI zs0) (!b1) (natI zs1)) else []
def bigSubB (b0 : Bool) (zs0 : List Int) (b1 : Bool) (zs1 : List Int) : Bool := if bigOk b0 zs0 && bigOk b1 zs1 then sgB (sgAddB b0 (natI zs0) (!b1) (natI zs1)) (capL (sgAddN b0 (natI zs0) (!b1) (natI zs1))) else false
theorem bigSubL_len (b0 : Bool) (zs0 : List Int) (b1 : Bool) (zs1 : List Int) : (bigSubL b0 zs0 b1 zs1).length ≤ 1000 := by
  unfold bigSubL
  split
  · have := capL_len (sgAddN b0 (natI zs0) (!b1) (natI zs1)); omega
  · simp
theorem bigSub_yes {b0 b1 : Bool} {x y : Nat} (h0 : bigOk b0 (limI x) = true) (h1 : bigOk b1 (limI y) = true) : bigSubB b0 (limI x) b1 (limI y) = sgB (sgAddB b0 x (!b1) y) (capL (sgAddN b0 x (!b1) y)) ∧ bigSubL b0 (limI x) b1 (limI y) = capL (sgAddN b0 x (!b1) y) := by
  unfold bigSubB bigSubL; rw [h0, h1, natI_limI, natI_limI]; exact ⟨rfl, rfl⟩
theorem bigSub_no {b0 b1 : Bool} {zs0 zs1 : List Int} (h : bigOk b0 zs0 = false ∨ bigOk b1 zs1 = false) : bigSubB b0 zs0 b1 zs1 = false ∧ bigSubL b0 zs0 b1 zs1 = [] := by
  unfold bigSubB bigSubL; rcases h with h | h <;> rw [h] <;> simp

def bigMulL (b0 : Bool) (zs0 : List Int) (b1 : Bool) (zs1 : List Int) : List Int := if bigOk b0 zs0 && bigOk b1 zs1 then capL ((natI zs0) * (natI zs1)) else []
def bigMulB (b0 : Bool) (zs0 : List Int) (b1 : Bool) (zs1 : List Int) : Bool := if bigOk b0 zs0 && bigOk b1 zs1 then sgB (!(b0 == b1)) (capL ((natI zs0) * (natI zs1))) else false
theorem bigMulL_len (b0 : Bool) (zs0 : List Int) (b1 : Bool) (zs1 : List Int) : (bigMulL b0 zs0 b1 zs1).length ≤ 1000 := by
  unfold bigMulL
  split
  · have := capL_len ((natI zs0) * (natI zs1)); omega
  · simp
theorem bigMul_yes {b0 b1 : Bool} {x y : Nat} (h0 : bigOk b0 (limI x) = true) (h1 : bigOk b1 (limI y) = true) : bigMulB b0 (limI x) b1 (limI y) = sgB (!(b0 == b1)) (capL (x * y)) ∧ bigMulL b0 (limI x) b1 (limI y) = capL (x * y) := by
  unfold bigMulB bigMulL; rw [h0, h1, natI_limI, natI_limI]; exact ⟨rfl, rfl⟩
theorem bigMul_no {b0 b1 : Bool} {zs0 zs1 : List Int} (h : bigOk b0 zs0 = false ∨ bigOk b1 zs1 = false) : bigMulB b0 zs0 b1 zs1 = false ∧ bigMulL b0 zs0 b1 zs1 = [] := by
  unfold bigMulB bigMulL; rcases h with h | h <;> rw [h] <;> simp

theorem row_cast {w : World} {v : Value} {l l' : List Int} (h : RowOf iV w v l) (e : l = l') : RowOf iV w v l' := by rw [← e]; exact h
theorem sgSub_eq {b0 b1 : Bool} {x y : Nat} (h : bigOk b1 (limI y) = true) : sgAddB b0 x (bigNegB b1 (limI y)) y = sgAddB b0 x (!b1) y ∧ sgAddN b0 x (bigNegB b1 (limI y)) y = sgAddN b0 x (!b1) y := by
  have e : capL y = limI y := capL_yes (by
    obtain ⟨z, h1, h2⟩ := okB_cases (bigOk_ok h)
    have h3 := congrArg natI h1
    rw [natI_limI, natI_limI] at h3
    rw [h3]; exact h2)
  rw [(bigNeg_yes h).1, e]
  rcases Nat.eq_zero_or_pos y with h0 | h0
  · subst h0
    rw [limI_zero, sgB_nil]
    unfold sgAddB sgAddN
    cases b0 <;> cases b1 <;> simp
  · rw [sgB_pos (by rw [limI_length]; exact (nlen_pos_iff y).2 h0)]
    exact ⟨rfl, rfl⟩
theorem bigNegL_eq {b1 : Bool} {y : Nat} (h : bigOk b1 (limI y) = true) : bigNegL b1 (limI y) = limI y := by
  rw [(bigNeg_yes h).2]
  obtain ⟨z, h1, h2⟩ := okB_cases (bigOk_ok h)
  have h3 := congrArg natI h1
  rw [natI_limI, natI_limI] at h3
  exact capL_yes (by rw [h3]; exact h2)

end Go.Proofs.YtdajldenjeanhaaGreatDoor
