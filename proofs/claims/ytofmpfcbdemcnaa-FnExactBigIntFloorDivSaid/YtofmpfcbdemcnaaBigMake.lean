/- A signed number out of a sign and limbs: l03Make of the model, withSign of the program. -/
import Derived.Test.YtofmpfcbdemcnaaBigOk
import Derived.Test.YtofmpfcbdemcnaaSpecDiv
import Derived.Test.YtofmpfcbdemcnaaManyLem
import Derived.Deep.CutBlock
import Derived.Deep.CutRange
namespace Go.Proofs.Ytofmpfcbdemcnaa
open Go.RowKit Go.WideShapes

/-- 'v[:k]' of a row -/
theorem RowOf.take {f : Int → Value} {w : World} {a : Option Addr} {n c : Nat} {l : List Int} (h : RowOf f w (.slice a n c) l) {k : Nat} (hk : k ≤ n) : RowOf f w (.slice a k c) (l.take k) := by
  obtain ⟨a', c', e, h1, h2, h3⟩ := h
  injection e with e1 e2 e3
  subst e1 e2 e3
  refine ⟨_, _, by rw [List.length_take, Nat.min_eq_left hk], by rw [List.length_take]; omega, h2, fun i hi => ?_⟩
  rw [List.length_take] at hi
  obtain ⟨b, o, e, hx⟩ := h3 i (by omega)
  exact ⟨b, o, e, by rw [hx, List.getElem_take]⟩
theorem row_none (w : World) (f : Int → Value) : RowOf f w (.slice none 0 0) [] := ⟨none, 0, rfl, Nat.le_refl _, by unfold maxLen; omega, fun i hi => by simp at hi⟩

set_option maxHeartbeats 400000 in
theorem spec_trimR (v : Value) (T n : Nat) (w : World) (h : RowOf iV w v (listF n (digF T))) (hT : nlen T ≤ n) :
    Calls Try.prog 65 #[v] w fun e w' => ∃ v', e = .returned v' ∧ RowOf iV w v' (limI T) ∧ w' = w := by
  obtain ⟨a, c, rfl, h1, hcm, hr⟩ := id h
  rw [listF_length] at h1 h ⊢
  unfold maxLen at hcm
  have H := Lib.hid h
  have HR := Lib.hid hr
  clear h hr
  by_cases hn : n = 0
  · have HT : Hid (limI T = []) := by
      unfold Hid
      have : nlen T = 0 := by omega
      unfold limI; rw [this]; rfl
    subst hn
    go_enter Try.func65, Try.ntmps65
    go_wp2
    go_loop [3] (fun sv => sv = .int .i64 0) (fun _ => 0)
    case atStart => rfl
    case round =>
      subst hrel
      go_wp2
      go_ret
      exact ⟨_, rfl, by rw [HT.out]; exact H.out, rfl⟩
  · obtain ⟨b, o, rfl, _⟩ := HR.out 0 (by rw [listF_length]; omega)
    go_enter Try.func65, Try.ntmps65
    go_wp2
    go_loop [3] (fun sv => ∃ k : Nat, k ≤ n ∧ nlen T ≤ k ∧ sv = .int .i64 k) (fun sv => (intOf sv).toNat)
    case atStart => exact ⟨n, Nat.le_refl _, hT, rfl⟩
    case round =>
      obtain ⟨k, hk, hTk, rfl⟩ := hrel
      by_cases hp : 0 < k
      · obtain ⟨b', o', e', hcl⟩ := HR.out (k - 1) (by rw [listF_length]; omega)
        injection e' with e'
        injection e' with e1 e2
        subst e1 e2
        rw [listF_get] at hcl
        unfold digF iV at hcl
        have e1 : ((k : Int) - 1).toNat = k - 1 := by omega
        have HM := Lib.hid (trim_more hTk hp)
        have HD := Lib.hid (trim_done hTk hp)
        obtain ⟨d, hd⟩ : ∃ d, dig T (k - 1) = d := ⟨_, rfl⟩
        rw [hd] at hcl HM HD
        clear hd
        by_cases h0 : d = 0
        · have HM2 := Lib.hid (HM.out h0)
          subst h0
          go_wp2
          go_round
          case rel => exact ⟨k - 1, by omega, HM2.out, by go_num⟩
          case measure => simp [intOf]; omega
        · have HD2 := Lib.hid (HD.out h0)
          have hb : ((d : Int) == 0) = false := by simp; exact h0
          clear h0
          go_wp2
          go_ret
          refine ⟨_, rfl, ?_, rfl⟩
          have := H.out.take hk
          rw [HD2.out, limI_take (by have := HD2.out; omega)] at this
          have e := HD2.out
          rw [← e] at this
          exact this
      · obtain rfl : k = 0 := by omega
        have HT : Hid (limI T = []) := by
          unfold Hid
          have : nlen T = 0 := by omega
          unfold limI; rw [this]; rfl
        go_wp2
        go_ret
        refine ⟨_, rfl, ?_, rfl⟩
        have := H.out.take (Nat.zero_le _)
        rw [List.take_zero] at this
        rw [HT.out]
        exact this

set_option maxHeartbeats 400000 in
theorem spec_capR (v : Value) (T n : Nat) (w : World) (h : RowOf iV w v (listF n (digF T))) (hn : nlen T ≤ n) :
    Calls Try.prog 61 #[v] w fun e w' => ∃ v', e = .returned v' ∧ RowOf iV w v' (capL T) ∧ w' = w := by
  have H1 := Lib.hid (spec_trimR v T n w h hn)
  clear h
  go_enter Try.func61, Try.ntmps61
  go_wp2_with fail
  refine H1.out.mono ?_
  rintro e w1 ⟨v', rfl, o, rfl⟩
  have H := Lib.hid o
  obtain ⟨a, c, rfl, h1, h2, h3⟩ := o
  unfold maxLen at h2
  have hi := nlen_le_iff 60 T
  clear h3
  rw [limI_length] at h1 H ⊢
  by_cases hT : nlen T ≤ 60
  · have HT := Lib.hid (hi.1 hT)
    clear hi
    go_wp2
    go_ret
    exact ⟨_, rfl, by rw [capL_yes HT.out]; exact H.out, rfl⟩
  · have HT := Lib.hid (show ¬ T < pw 60 by omega)
    clear hi
    go_wp2
    go_ret
    exact ⟨_, rfl, by rw [capL_no HT.out]; exact row_none _ _, rfl⟩
set_option maxHeartbeats 400000 in
theorem impl_limitedR (v : Value) (T : Nat) (w : World) (h : RowOf iV w v (limI T)) :
    Calls Try.prog 62 #[v] w fun e w' => ∃ v', e = .returned v' ∧ RowOf iV w v' (capL T) ∧ w' = w := by
  have H := Lib.hid h
  obtain ⟨a, c, rfl, h1, h2, h3⟩ := h
  unfold maxLen at h2
  have hi := nlen_le_iff 60 T
  clear h3
  rw [limI_length] at h1 H ⊢
  by_cases hT : nlen T ≤ 60
  · have HT := Lib.hid (hi.1 hT)
    clear hi
    go_enter Try.func62, Try.ntmps62
    go_wp2
    go_ret
    exact ⟨_, rfl, by rw [capL_yes HT.out]; exact H.out, rfl⟩
  · have HT := Lib.hid (show ¬ T < pw 60 by omega)
    clear hi
    go_enter Try.func62, Try.ntmps62
    go_wp2
    go_ret
    exact ⟨_, rfl, by rw [capL_no HT.out]; exact row_none _ _, rfl⟩

/-- the sign that a number with these limbs bears -/
def sgB (b : Bool) (l : List Int) : Bool := b && decide (0 < l.length)
theorem sgB_plain (l : List Int) : sgB false l = false := rfl
theorem sgB_nil (b : Bool) : sgB b [] = false := by unfold sgB; simp
theorem sgB_pos {b : Bool} {l : List Int} (h : 0 < l.length) : sgB b l = b := by unfold sgB; rw [decide_eq_true h]; simp

set_option maxHeartbeats 1000000 in
theorem spec_make (b : Bool) (va : Value) (T n : Nat) (w : World) (ha : RowOf iV w va (listF n (digF T))) (hn : nlen T ≤ n) :
    Calls Try.prog 42 #[.bool b, va] w fun e w' => ∃ v, e = .returned (.agg #[.bool (sgB b (capL T)), v]) ∧ OwnI w' w.heap.size v (capL T) ∧ Below w.heap.size w w' := by
  have bA := (Below.refl w.heap.size w).alloc (Nat.le_refl _) (.cells #[.bool false, .slice none 0 0] 27)
  have H := Lib.hid (spec_capR va T n _ (rowOf_below ha bA) hn)
  have hcl := capL_len T
  clear hn
  obtain ⟨a, c, rfl, e1, e2, e3⟩ := ha
  clear e1 e2 e3
  generalize capL T = l at H hcl ⊢
  go_enter Try.func42, Try.ntmps42
  go_wp2_with fail
  refine H.out.mono ?_
  rintro e w1 ⟨v', rfl, hr, rfl⟩
  clear H
  have HR := Lib.hid hr
  obtain ⟨a1, c1, rfl, f1, f2, f3⟩ := hr
  unfold maxLen at f2
  clear f3
  clear bA
  have hln : ([] : List Int).length + l.length ≤ 1099511627776 := by simp; omega
  have HL0 := OwnI.lit0 (w.alloc (.cells #[.bool false, .slice none 0 0] 27))
  simp only [World.size_alloc] at HL0
  have HL := Lib.hid HL0
  clear HL0
  have HD := Lib.hid ((Bx.new w 27 false (.slice none 0 0)).alloc (.cells #[] 3))
  have HR2 := Lib.hid (rowOf_below HR.out ((Below.refl _ _).alloc (Nat.le_refl _) (.cells #[] 3)))
  have FIN : Hid (∀ (v' : Value) (w1 : World), OwnI w1 (w.heap.size + 1) v' ([] ++ l) → ((w.alloc (.cells #[.bool false, .slice none 0 0] 27)).alloc (.cells #[] 3)).grownBy w1 (some (w.heap.size + 1)) →
      (∃ a c, v' = .slice a l.length c) ∧ Bx w1 w.heap.size 27 false (.slice none 0 0) ∧ (∀ x y, OwnI ((w1.setCell ⟨w.heap.size, 0, none⟩ x).setCell ⟨w.heap.size, 1, none⟩ y) w.heap.size v' l ∧ Below w.heap.size w ((w1.setCell ⟨w.heap.size, 0, none⟩ x).setCell ⟨w.heap.size, 1, none⟩ y))) := fun v' w1 h1 hg => by
    rw [List.nil_append] at h1
    refine ⟨h1.slice, HD.out.kept hg (fun e => by injection e with e; omega), fun x y => ⟨((h1.old (by omega) 0 x).old (by omega) 1 y).base (by omega), ?_⟩⟩
    have b1 := (((Below.refl w.heap.size w).alloc (Nat.le_refl _) (.cells #[.bool false, .slice none 0 0] 27)).alloc (by simp) (.cells #[] 3)).grown hg (by simp; omega) (fun g e => by injection e with e; omega)
    exact (b1.setCell (Nat.le_refl _) x).setCell (Nat.le_refl _) y
  clear HD HR
  cases b with
  | false =>
    go_wp2_with (at_builtin; refine append_ints rfl _ _ 22 Try.underlying22 rfl _ _ _ [] l rfl HL.out rfl HR2.out hln (by simp) ?_; intro v2 w2 h1 hg1; obtain ⟨⟨a2, c2, rfl⟩, hD, hF⟩ := FIN.out _ _ h1 hg1; have k0 := hD.c0; have k1 := hD.c1; have k2 := hD.f0; have k3 := hD.f1; have HF := Lib.hid hF; clear hD hF h1 hg1)
    exact bodyPost_ret (v := .agg #[.bool false, .slice a2 l.length c2]) (by simp [results, Try.results42, go_sem, k0, k1]) rfl ⟨_, by rw [sgB_plain], (HF.out _ _).1, (HF.out _ _).2⟩
  | true =>
    by_cases h0 : 0 < l.length
    · have hS := Lib.hid (sgB_pos (b := true) h0)
      go_wp2_with (at_builtin; refine append_ints rfl _ _ 22 Try.underlying22 rfl _ _ _ [] l rfl HL.out rfl HR2.out hln (by simp) ?_; intro v2 w2 h1 hg1; obtain ⟨⟨a2, c2, rfl⟩, hD, hF⟩ := FIN.out _ _ h1 hg1; have k0 := hD.c0; have k1 := hD.c1; have k2 := hD.f0; have k3 := hD.f1; have HF := Lib.hid hF; clear hD hF h1 hg1)
      exact bodyPost_ret (v := .agg #[.bool true, .slice a2 l.length c2]) (by simp [results, Try.results42, go_sem, k0, k1]) rfl ⟨_, by rw [hS.out], (HF.out _ _).1, (HF.out _ _).2⟩
    · have hz : l.length = 0 := by omega
      have hS : Hid (sgB true l = false) := by
        unfold Hid sgB
        rw [decide_eq_false h0]; rfl
      rw [hz] at HR2 FIN ⊢
      clear h0 f1
      go_wp2_with (at_builtin; refine append_ints rfl _ _ 22 Try.underlying22 rfl _ _ _ [] l rfl HL.out rfl HR2.out hln (by simp) ?_; intro v2 w2 h1 hg1; obtain ⟨⟨a2, c2, rfl⟩, hD, hF⟩ := FIN.out _ _ h1 hg1; have k0 := hD.c0; have k1 := hD.c1; have k2 := hD.f0; have k3 := hD.f1; have HF := Lib.hid hF; clear hD hF h1 hg1)
      exact bodyPost_ret (v := .agg #[.bool false, .slice a2 0 c2]) (by simp [results, Try.results42, go_sem, k0, k1]) rfl ⟨_, by rw [hS.out], (HF.out _ _).1, (HF.out _ _).2⟩

/-- 'copy(own, limbs)' into a row of the call's own of the same length -/
theorem copy_ints {ops : Array Oper} {rest : List Oper} {o : Oper} {a : Act} {Q : Exit → Act → World → Prop} {w : World} (hgd : o.guard = none) (d s : Operand) (T1 T2 : TypeId) (hT : Try.prog.underlying T1 = some (.slice 3))
    (ho : o.op = .call { callee := .builtin .copy, args := #[d, s], argTypes := #[T1, T2] }) (g n B : Nat) (v : Value) (l l0 : List Int) (hd : a.eval d = .slice (some ⟨g, 0, none⟩) n n) (hs : a.eval s = v)
    (hO : OwnI w B (.slice (some ⟨g, 0, none⟩) n n) l0) (hr : RowOf iV w v l) (hl : l.length = n) (hn : n ≤ 1099511627776) (hB : B ≤ g)
    (h : ∀ w' x, OwnI w' B (.slice (some ⟨g, 0, none⟩) n n) l → w.grownBy w' (some g) → wpList Try.prog ops Q rest (a.put o.dst x) w') : wpList Try.prog ops Q (o :: rest) a w := by
  obtain ⟨i0, hi, hz0, hz1, hz2⟩ := info_parts info_int
  obtain ⟨ax, c, rfl, hc, hm, hcell⟩ := hr
  have hl0 : l0.length = n := by
    have := hO.len
    simpa using this
  refine wpList_plain hgd fun K hK => ?_
  cases ax with
  | none =>
    have hl2 : l = [] := by
      cases l with
      | nil => rfl
      | cons y r => obtain ⟨b, o, e, _⟩ := hcell 0 (by simp); cases e
    subst hl2
    obtain rfl : n = 0 := by simpa using hl.symm
    obtain rfl : l0 = [] := List.eq_nil_of_length_eq_zero hl0
    have hrun : (Builtin.copy_ #[T1, T2] o.type #[.slice (some ⟨g, 0, none⟩) 0 0, .slice none 0 c]).run Try.prog w = .ok (goInt 0) w := by
      simp [Builtin.copy_, run_underlying hT, sizeOf, typeInfo, hi, Builtin.lenOf, Builtin.firstCells, storeCells]
    unfold Oper.wp
    simp only [List.length_nil] at hs
    simp [execOp, ho, resolve, invoke, builtin, hd, hs, hrun, Result.andThen]
    exact hK _ _ (h w _ hO (grownBy_refl _ _))
  | some ad =>
    have hrun := run_copy_row (P := Try.prog) w T1 T2 o.type 3 g 0 n n ad l.length c (l0.map iV).toArray 3 (l.map iV) hT (by simp [hi, hz1]) (ownI_heap hO)
      (by rw [List.length_map, hl]; exact (Nat.min_self n).symm)
      (fun j u hj => by
        obtain ⟨hj1, hj2⟩ := List.getElem?_eq_some_iff.1 hj
        rw [List.length_map] at hj1
        obtain ⟨b, o', e, hx'⟩ := hcell j hj1
        injection e with e
        subst e
        rw [add_plain, hx', ← hj2]
        simp)
      (by simp [hl, hl0]) (fun u hu => by
        obtain ⟨z, _, rfl⟩ := List.mem_map.1 hu
        rfl)
    have e : (((l0.map iV).toArray.toList.take 0 ++ l.map iV ++ (l0.map iV).toArray.toList.drop (0 + (l.map iV).length)).toArray) = (l.map iV).toArray := by
      have : (l0.map iV).toArray.toList.drop (0 + (l.map iV).length) = [] := by
        apply List.drop_of_length_le
        simp [hl, hl0]
      rw [this]; simp
    rw [e] at hrun
    unfold Oper.wp
    simp [execOp, ho, resolve, invoke, builtin, hd, hs, hrun, Result.andThen]
    exact hK _ _ (h (w.setRow g (l.map iV).toArray) _ (heap_ownI (setRow_heap w g _ _ _ _ (ownI_heap hO)) hB hl (by unfold maxLen; omega)) (setRow_grown _ _ _))

set_option maxHeartbeats 1000000 in
theorem impl_withSign (b : Bool) (va : Value) (T : Nat) (w : World) (ha : RowOf iV w va (limI T)) :
    Calls Try.prog 44 #[.bool b, va] w fun e w' => ∃ v, e = .returned (.agg #[.bool (sgB b (capL T)), v]) ∧ OwnI w' w.heap.size v (capL T) ∧ Below w.heap.size w w' := by
  have bA := (Below.refl w.heap.size w).alloc (Nat.le_refl _) (.cells #[.bool false, .slice none 0 0] 27)
  have H := Lib.hid (impl_limitedR va T _ (rowOf_below ha bA))
  have hcl := capL_len T
  obtain ⟨a, c, rfl, e1, e2, e3⟩ := ha
  clear e1 e2 e3
  generalize capL T = l at H hcl ⊢
  obtain ⟨n, hn⟩ : ∃ n, l.length = n := ⟨_, rfl⟩
  rw [hn] at hcl
  have HN := Lib.hid hn
  clear hn
  go_enter Try.func44, Try.ntmps44
  go_wp2_with fail
  refine H.out.mono ?_
  rintro e w1 ⟨v', rfl, hr, rfl⟩
  clear H
  have HR := Lib.hid hr
  obtain ⟨a1, c1, rfl, f1, f2, f3⟩ := hr
  rw [HN.out] at HR f1 ⊢
  unfold maxLen at f2
  clear f3 bA
  have hmk := make_ints n (by omega)
  have HL0 := zeroObj_own (w.alloc (.cells #[.bool false, .slice none 0 0] 27)) (w.alloc (.cells #[.bool false, .slice none 0 0] 27)).heap.size n (Nat.le_refl _) (by omega)
  simp only [World.size_alloc] at HL0
  have HL := Lib.hid HL0
  clear HL0
  have HD := Lib.hid ((Bx.new w 27 false (.slice none 0 0)).alloc (zeroObj n))
  have HR2 := Lib.hid (rowOf_below HR.out ((Below.refl _ _).alloc (Nat.le_refl _) (zeroObj n)))
  have FIN : Hid (∀ (w1 : World), OwnI w1 (w.heap.size + 1) (.slice (some ⟨w.heap.size + 1, 0, none⟩) n n) l → ((w.alloc (.cells #[.bool false, .slice none 0 0] 27)).alloc (zeroObj n)).grownBy w1 (some (w.heap.size + 1)) →
      Bx w1 w.heap.size 27 false (.slice none 0 0) ∧ (∀ x y, OwnI ((w1.setCell ⟨w.heap.size, 0, none⟩ x).setCell ⟨w.heap.size, 1, none⟩ y) w.heap.size (.slice (some ⟨w.heap.size + 1, 0, none⟩) n n) l ∧ Below w.heap.size w ((w1.setCell ⟨w.heap.size, 0, none⟩ x).setCell ⟨w.heap.size, 1, none⟩ y))) := fun w1 h1 hg => by
    refine ⟨HD.out.kept hg (fun e => by injection e with e; omega), fun x y => ⟨((h1.old (by omega) 0 x).old (by omega) 1 y).base (by omega), ?_⟩⟩
    have b1 := (((Below.refl w.heap.size w).alloc (Nat.le_refl _) (.cells #[.bool false, .slice none 0 0] 27)).alloc (by simp) (zeroObj n)).grown hg (by simp; omega) (fun g e => by injection e with e; omega)
    exact (b1.setCell (Nat.le_refl _) x).setCell (Nat.le_refl _) y
  clear HD HR
  have hn0 : (0 : Int) ≤ n := by omega
  cases b with
  | false =>
    go_wp2_with (refine copy_ints rfl (.tmp 16) (.tmp 17) 22 50 Try.underlying22 rfl (w.heap.size + 1) _ _ _ l _ rfl rfl HL.out HR2.out HN.out (by omega) (Nat.le_refl _) ?_; intro w2 x2 h1 hg1; obtain ⟨hD, hF⟩ := FIN.out _ h1 hg1; have k0 := hD.c0; have k1 := hD.c1; have k2 := hD.f0; have k3 := hD.f1; have HF := Lib.hid hF; clear hD hF h1 hg1)
    exact bodyPost_ret (v := .agg #[.bool false, .slice (some ⟨w.heap.size + 1, 0, none⟩) n n]) (by simp [results, Try.results44, go_sem, k0, k1]) rfl ⟨_, by rw [sgB_plain], (HF.out _ _).1, (HF.out _ _).2⟩
  | true =>
    by_cases h0 : 0 < n
    · have hS := Lib.hid (sgB_pos (b := true) (l := l) (by rw [HN.out]; exact h0))
      go_wp2_with (refine copy_ints rfl (.tmp 16) (.tmp 17) 22 50 Try.underlying22 rfl (w.heap.size + 1) _ _ _ l _ rfl rfl HL.out HR2.out HN.out (by omega) (Nat.le_refl _) ?_; intro w2 x2 h1 hg1; obtain ⟨hD, hF⟩ := FIN.out _ h1 hg1; have k0 := hD.c0; have k1 := hD.c1; have k2 := hD.f0; have k3 := hD.f1; have HF := Lib.hid hF; clear hD hF h1 hg1)
      exact bodyPost_ret (v := .agg #[.bool true, .slice (some ⟨w.heap.size + 1, 0, none⟩) n n]) (by simp [results, Try.results44, go_sem, k0, k1]) rfl ⟨_, by rw [hS.out], (HF.out _ _).1, (HF.out _ _).2⟩
    · have hS : Hid (sgB true l = false) := by
        unfold Hid sgB
        rw [HN.out, decide_eq_false h0]; rfl
      have h0' : decide ((0 : Int) < n) = false := by simp; omega
      go_wp2_with (refine copy_ints rfl (.tmp 16) (.tmp 17) 22 50 Try.underlying22 rfl (w.heap.size + 1) _ _ _ l _ rfl rfl HL.out HR2.out HN.out (by omega) (Nat.le_refl _) ?_; intro w2 x2 h1 hg1; obtain ⟨hD, hF⟩ := FIN.out _ h1 hg1; have k0 := hD.c0; have k1 := hD.c1; have k2 := hD.f0; have k3 := hD.f1; have HF := Lib.hid hF; clear hD hF h1 hg1)
      exact bodyPost_ret (v := .agg #[.bool false, .slice (some ⟨w.heap.size + 1, 0, none⟩) n n]) (by simp [results, Try.results44, go_sem, k0, k1]) rfl ⟨_, by rw [hS.out], (HF.out _ _).1, (HF.out _ _).2⟩

end Go.Proofs.Ytofmpfcbdemcnaa
