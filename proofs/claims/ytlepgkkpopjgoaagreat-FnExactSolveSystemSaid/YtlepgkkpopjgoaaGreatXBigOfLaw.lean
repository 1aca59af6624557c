/- Signed BigOfLaw. -/
import Derived.Test.YtlepgkkpopjgoaaGreatXBase
import Derived.Test.YtlepgkkpopjgoaaGreatXQuot
import Derived.Deep.CutBlock
import Derived.Deep.CutRange
import Derived.Test.YtlepgkkpopjgoaaGreatXSums
import Derived.Deep.RegionHeld3
namespace Go.Proofs.YtlepgkkpopjgoaaGreat
set_option maxRecDepth 100000
set_option linter.unusedVariables false
set_option linter.unusedSimpArgs false
set_option maxRecDepth 100000
open Go.RowKit
def bigOk (b : Bool) (zs : List Int) : Bool := okB zs && (!b || decide (0 < zs.length))
theorem bigOk_no {b : Bool} {zs : List Int} (h : okB zs = false) : bigOk b zs = false := by unfold bigOk; rw [h]; rfl
theorem bigOk_plain {zs : List Int} (h : okB zs = true) : bigOk false zs = true := by unfold bigOk; rw [h]; rfl
theorem bigOk_neg {zs : List Int} (h : okB zs = true) : bigOk true zs = decide (0 < zs.length) := by unfold bigOk; rw [h]; rfl
theorem bigOk_ok {b : Bool} {zs : List Int} (h : bigOk b zs = true) : okB zs = true := by
 unfold bigOk at h
 rw [Bool.and_eq_true] at h
 exact h.1
theorem bigOk_pos {zs : List Int} (h : bigOk true zs = true) : 0 < zs.length := by
 rw [bigOk_neg (bigOk_ok h)] at h
 simpa using h
set_option maxHeartbeats 400000 in
theorem spec_bigOk (b : Bool) (va : Value) (zs : List Int) (w : World) (ha : RowOf iV w va zs) :
  Calls Tryz.prog 150 #[.agg #[.bool b, va]] w fun e w' => e = .returned (.bool (bigOk b zs)) ∧ w' = w.alloc (.cells #[.bool b, va] 32) := by
 have K0 := Lib.hid (fun W (hW : Below w.heap.size w W) => spec_natOk va zs W (rowOf_below ha hW))
 obtain ⟨a, c, rfl, h1, h2, h3⟩ := ha
 clear h1 h3
 unfold maxLen at h2
 have bA := (Below.refl w.heap.size w).alloc (Nat.le_refl _) (.cells #[.bool b, .slice a zs.length c] 32)
 cases e0 : okB zs with
 | false =>
  have HE := Lib.hid (bigOk_no (b := b) e0)
  rw [e0] at K0
  clear e0
  go_enter Tryz.func150, Tryz.ntmps150
  go_wp2_with (go_at_call 151; refine (K0.out _ bA).mono ?_; rintro e w' ⟨rfl, rfl⟩)
  go_ret
  exact ⟨ret_bool (by rw [HE.out]), rfl⟩
 | true =>
  rw [e0] at K0
  cases b with
  | false =>
   have HE := Lib.hid (bigOk_plain e0)
   clear e0
   go_enter Tryz.func150, Tryz.ntmps150
   go_wp2_with (go_at_call 151; refine (K0.out _ bA).mono ?_; rintro e w' ⟨rfl, rfl⟩)
   go_ret
   exact ⟨ret_bool (by rw [HE.out]), rfl⟩
  | true =>
   have HE := bigOk_neg e0
   clear e0
   by_cases h0 : 0 < zs.length
   ·rw [decide_eq_true h0] at HE
    have HE := Lib.hid HE
    go_enter Tryz.func150, Tryz.ntmps150
    go_wp2_with (go_at_call 151; refine (K0.out _ bA).mono ?_; rintro e w' ⟨rfl, rfl⟩)
    go_ret
    exact ⟨ret_bool (by rw [HE.out]), rfl⟩
   ·rw [decide_eq_false h0] at HE
    have HE := Lib.hid HE
    have hz : zs.length = 0 := by omega
    rw [hz] at K0 bA ⊢
    clear h0 h2
    go_enter Tryz.func150, Tryz.ntmps150
    go_wp2_with (go_at_call 151; refine (K0.out _ bA).mono ?_; rintro e w' ⟨rfl, rfl⟩)
    go_ret
    exact ⟨ret_bool (by rw [HE.out]), rfl⟩
theorem spec_bigOkB (b : Bool) (va : Value) (zs : List Int) (w : World) (ha : RowOf iV w va zs) :
  Calls Tryz.prog 150 #[.agg #[.bool b, va]] w fun e w' => e = .returned (.bool (bigOk b zs)) ∧ Below w.heap.size w w' :=
 (spec_bigOk b va zs w ha).mono fun _ _ ⟨he, hw⟩ => ⟨he, by rw [hw]; exact (Below.refl _ _).alloc (Nat.le_refl _) _⟩
set_option maxHeartbeats 400000 in
theorem impl_bigOk (b : Bool) (va : Value) (zs : List Int) (w : World) (ha : RowOf iV w va zs) :
  Calls Tryz.prog 107 #[.agg #[.bool b, va]] w fun e w' => e = .returned (.bool (bigOk b zs)) ∧ w' = w.alloc (.cells #[.bool b, va] 32) := by
 have K0 := Lib.hid (fun W (hW : Below w.heap.size w W) => impl_natOk va zs W (rowOf_below ha hW))
 obtain ⟨a, c, rfl, h1, h2, h3⟩ := ha
 clear h1 h3
 unfold maxLen at h2
 have bA := (Below.refl w.heap.size w).alloc (Nat.le_refl _) (.cells #[.bool b, .slice a zs.length c] 32)
 cases e0 : okB zs with
 | false =>
  have HE := Lib.hid (bigOk_no (b := b) e0)
  rw [e0] at K0
  clear e0
  go_enter Tryz.func107, Tryz.ntmps107
  go_wp2_with (go_at_call 108; refine (K0.out _ bA).mono ?_; rintro e w' ⟨rfl, rfl⟩)
  go_ret
  exact ⟨ret_bool (by rw [HE.out]), rfl⟩
 | true =>
  rw [e0] at K0
  cases b with
  | false =>
   have HE := Lib.hid (bigOk_plain e0)
   clear e0
   go_enter Tryz.func107, Tryz.ntmps107
   go_wp2_with (go_at_call 108; refine (K0.out _ bA).mono ?_; rintro e w' ⟨rfl, rfl⟩)
   go_ret
   exact ⟨ret_bool (by rw [HE.out]), rfl⟩
  | true =>
   have HE := bigOk_neg e0
   clear e0
   by_cases h0 : 0 < zs.length
   ·rw [decide_eq_true h0] at HE
    have HE := Lib.hid HE
    go_enter Tryz.func107, Tryz.ntmps107
    go_wp2_with (go_at_call 108; refine (K0.out _ bA).mono ?_; rintro e w' ⟨rfl, rfl⟩)
    go_ret
    exact ⟨ret_bool (by rw [HE.out]), rfl⟩
   ·rw [decide_eq_false h0] at HE
    have HE := Lib.hid HE
    have hz : zs.length = 0 := by omega
    rw [hz] at K0 bA ⊢
    clear h0 h2
    go_enter Tryz.func107, Tryz.ntmps107
    go_wp2_with (go_at_call 108; refine (K0.out _ bA).mono ?_; rintro e w' ⟨rfl, rfl⟩)
    go_ret
    exact ⟨ret_bool (by rw [HE.out]), rfl⟩
theorem impl_bigOkB (b : Bool) (va : Value) (zs : List Int) (w : World) (ha : RowOf iV w va zs) :
  Calls Tryz.prog 107 #[.agg #[.bool b, va]] w fun e w' => e = .returned (.bool (bigOk b zs)) ∧ Below w.heap.size w w' :=
 (impl_bigOk b va zs w ha).mono fun _ _ ⟨he, hw⟩ => ⟨he, by rw [hw]; exact (Below.refl _ _).alloc (Nat.le_refl _) _⟩
end Go.Proofs.YtlepgkkpopjgoaaGreat
namespace Go.Proofs.YtlepgkkpopjgoaaGreat
set_option maxRecDepth 100000
set_option linter.unusedVariables false
set_option linter.unusedSimpArgs false
open Go.RowKit Go.WideShapes
theorem RowOf.take {f : Int → Value} {w : World} {a : Option Addr} {n c : Nat} {l : List Int} (h : RowOf f w (.slice a n c) l) {k : Nat} (hk : k ≤ n) : RowOf f w (.slice a k c) (l.take k) := by
 obtain ⟨a', c', e, h1, h2, h3⟩ := h
 injection e with e1 e2 e3
 subst e1 e2 e3
 refine ⟨_, _, by rw [List.length_take, Nat.min_eq_left hk], by rw [List.length_take]; omega, h2, fun i hi => ?_⟩
 rw [List.length_take] at hi
 obtain ⟨b, o, e, hx⟩ := h3 i (by omega)
 exact ⟨b, o, e, by rw [hx, List.getElem_take]⟩
theorem row_none (w : World) (f : Int → Value) : RowOf f w (.slice none 0 0) [] := ⟨none, 0, rfl, Nat.le_refl _, by unfold maxLen; omega, fun i hi => by simp at hi⟩
set_option maxHeartbeats 400000 in
theorem spec_trimR (v : Value) (T n : Nat) (w : World) (h : RowOf iV w v (listF n (digF T))) (hT : nlen T ≤ n) :
  Calls Tryz.prog 157 #[v] w fun e w' => ∃ v', e = .returned v' ∧ RowOf iV w v' (limI T) ∧ w' = w := by
 obtain ⟨a, c, rfl, h1, hcm, hr⟩ := id h
 rw [listF_length] at h1 h ⊢
 unfold maxLen at hcm
 have H := Lib.hid h
 have HR := Lib.hid hr
 clear h hr
 by_cases hn : n = 0
 ·have HT : Hid (limI T = []) := by
   unfold Hid
   have : nlen T = 0 := by omega
   unfold limI; rw [this]; rfl
  subst hn
  go_enter Tryz.func157, Tryz.ntmps157
  go_wp2
  go_loop [3] (fun sv => sv = .int .i64 0) (fun _ => 0)
  case atStart => rfl
  case round =>
   subst hrel
   go_wp2
   go_ret
   exact ⟨_, rfl, by rw [HT.out]; exact H.out, rfl⟩
 ·obtain ⟨b, o, rfl, _⟩ := HR.out 0 (by rw [listF_length]; omega)
  go_enter Tryz.func157, Tryz.ntmps157
  go_wp2
  go_loop [3] (fun sv => ∃ k : Nat, k ≤ n ∧ nlen T ≤ k ∧ sv = .int .i64 k) (fun sv => (intOf sv).toNat)
  case atStart => exact ⟨n, Nat.le_refl _, hT, rfl⟩
  case round =>
   obtain ⟨k, hk, hTk, rfl⟩ := hrel
   by_cases hp : 0 < k
   ·obtain ⟨b', o', e', hcl⟩ := HR.out (k - 1) (by rw [listF_length]; omega)
    injection e' with e'
    injection e' with e1 e2
    subst e1 e2
    rw [listF_get] at hcl
    unfold digF iV at hcl
    have e1 : ((k : Int) - 1).toNat = k - 1 := by omega
    have HM := Lib.hid (trim_more hTk hp)
    have HD := Lib.hid (trim_done hTk hp)
    obtain ⟨d, hd⟩ : ∃ d, dig T (k - 1) = d := ⟨_, rfl⟩
    rw [hd] at hcl HM HD
    clear hd
    by_cases h0 : d = 0
    ·have HM2 := Lib.hid (HM.out h0)
     subst h0
     go_wp2
     go_round
     case rel => exact ⟨k - 1, by omega, HM2.out, by go_num⟩
     case measure => simp [intOf]; omega
    ·have HD2 := Lib.hid (HD.out h0)
     have hb : ((d : Int) == 0) = false := by simp; exact h0
     clear h0
     go_wp2
     go_ret
     refine ⟨_, rfl, ?_, rfl⟩
     have := H.out.take hk
     rw [HD2.out, limI_take (by have := HD2.out; omega)] at this
     have e := HD2.out
     rw [← e] at this
     exact this
   ·obtain rfl : k = 0 := by omega
    have HT : Hid (limI T = []) := by
     unfold Hid
     have : nlen T = 0 := by omega
     unfold limI; rw [this]; rfl
    go_wp2
    go_ret
    refine ⟨_, rfl, ?_, rfl⟩
    have := H.out.take (Nat.zero_le _)
    rw [List.take_zero] at this
    rw [HT.out]
    exact this
set_option maxHeartbeats 400000 in
theorem spec_capR (v : Value) (T n : Nat) (w : World) (h : RowOf iV w v (listF n (digF T))) (hn : nlen T ≤ n) :
  Calls Tryz.prog 160 #[v] w fun e w' => ∃ v', e = .returned v' ∧ RowOf iV w v' (capL T) ∧ w' = w := by
 have H1 := Lib.hid (spec_trimR v T n w h hn)
 clear h
 go_enter Tryz.func160, Tryz.ntmps160
 go_wp2_with fail
 refine H1.out.mono ?_
 rintro e w1 ⟨v', rfl, o, rfl⟩
 have H := Lib.hid o
 obtain ⟨a, c, rfl, h1, h2, h3⟩ := o
 unfold maxLen at h2
 have hi := nlen_le_iff 60 T
 clear h3
 rw [limI_length] at h1 H ⊢
 by_cases hT : nlen T ≤ 60
 ·have HT := Lib.hid (hi.1 hT)
  clear hi
  go_wp2
  go_ret
  exact ⟨_, rfl, by rw [capL_yes HT.out]; exact H.out, rfl⟩
 ·have HT := Lib.hid (show ¬ T < pw 60 by omega)
  clear hi
  go_wp2
  go_ret
  exact ⟨_, rfl, by rw [capL_no HT.out]; exact row_none _ _, rfl⟩
set_option maxHeartbeats 400000 in
theorem impl_limitedR (v : Value) (T : Nat) (w : World) (h : RowOf iV w v (limI T)) :
  Calls Tryz.prog 166 #[v] w fun e w' => ∃ v', e = .returned v' ∧ RowOf iV w v' (capL T) ∧ w' = w := by
 have H := Lib.hid h
 obtain ⟨a, c, rfl, h1, h2, h3⟩ := h
 unfold maxLen at h2
 have hi := nlen_le_iff 60 T
 clear h3
 rw [limI_length] at h1 H ⊢
 by_cases hT : nlen T ≤ 60
 ·have HT := Lib.hid (hi.1 hT)
  clear hi
  go_enter Tryz.func166, Tryz.ntmps166
  go_wp2
  go_ret
  exact ⟨_, rfl, by rw [capL_yes HT.out]; exact H.out, rfl⟩
 ·have HT := Lib.hid (show ¬ T < pw 60 by omega)
  clear hi
  go_enter Tryz.func166, Tryz.ntmps166
  go_wp2
  go_ret
  exact ⟨_, rfl, by rw [capL_no HT.out]; exact row_none _ _, rfl⟩
def sgB (b : Bool) (l : List Int) : Bool := b && decide (0 < l.length)
theorem sgB_plain (l : List Int) : sgB false l = false := rfl
theorem sgB_pos {b : Bool} {l : List Int} (h : 0 < l.length) : sgB b l = b := by unfold sgB; rw [decide_eq_true h]; simp
set_option maxHeartbeats 1000000 in
theorem spec_make (b : Bool) (va : Value) (T n : Nat) (w : World) (ha : RowOf iV w va (listF n (digF T))) (hn : nlen T ≤ n) :
  Calls Tryz.prog 135 #[.bool b, va] w fun e w' => ∃ v, e = .returned (.agg #[.bool (sgB b (capL T)), v]) ∧ OwnI w' w.heap.size v (capL T) ∧ Below w.heap.size w w' := by
 have bA := (Below.refl w.heap.size w).alloc (Nat.le_refl _) (.cells #[.bool false, .slice none 0 0] 32)
 have H := Lib.hid (spec_capR va T n _ (rowOf_below ha bA) hn)
 have hcl := capL_len T
 clear hn
 obtain ⟨a, c, rfl, e1, e2, e3⟩ := ha
 clear e1 e2 e3
 generalize capL T = l at H hcl ⊢
 go_enter Tryz.func135, Tryz.ntmps135
 go_wp2_with fail
 refine H.out.mono ?_
 rintro e w1 ⟨v', rfl, hr, rfl⟩
 clear H
 have HR := Lib.hid hr
 obtain ⟨a1, c1, rfl, f1, f2, f3⟩ := hr
 unfold maxLen at f2
 clear f3
 clear bA
 have hln : ([] : List Int).length + l.length ≤ 1099511627776 := by simp; omega
 have HL0 := OwnI.lit0 (w.alloc (.cells #[.bool false, .slice none 0 0] 32))
 simp only [World.size_alloc] at HL0
 have HL := Lib.hid HL0
 clear HL0
 have HD := Lib.hid ((Bx.new w 32 false (.slice none 0 0)).alloc (.cells #[] 3))
 have HR2 := Lib.hid (rowOf_below HR.out ((Below.refl _ _).alloc (Nat.le_refl _) (.cells #[] 3)))
 have FIN : Hid (∀ (v' : Value) (w1 : World), OwnI w1 (w.heap.size + 1) v' ([] ++ l) → ((w.alloc (.cells #[.bool false, .slice none 0 0] 32)).alloc (.cells #[] 3)).grownBy w1 (some (w.heap.size + 1)) →
   (∃ a c, v' = .slice a l.length c) ∧ Bx w1 w.heap.size 32 false (.slice none 0 0) ∧ (∀ x y, OwnI ((w1.setCell ⟨w.heap.size, 0, none⟩ x).setCell ⟨w.heap.size, 1, none⟩ y) w.heap.size v' l ∧ Below w.heap.size w ((w1.setCell ⟨w.heap.size, 0, none⟩ x).setCell ⟨w.heap.size, 1, none⟩ y))) := fun v' w1 h1 hg => by
  rw [List.nil_append] at h1
  refine ⟨h1.slice, HD.out.kept hg (fun e => by injection e with e; omega), fun x y => ⟨((h1.old (by omega) 0 x).old (by omega) 1 y).base (by omega), ?_⟩⟩
  have b1 := (((Below.refl w.heap.size w).alloc (Nat.le_refl _) (.cells #[.bool false, .slice none 0 0] 32)).alloc (by simp) (.cells #[] 3)).grown hg (by simp; omega) (fun g e => by injection e with e; omega)
  exact (b1.setCell (Nat.le_refl _) x).setCell (Nat.le_refl _) y
 clear HD HR
 cases b with
 | false =>
  go_wp2_with (at_builtin; refine append_ints rfl _ _ 30 Tryz.underlying30 rfl _ _ _ [] l rfl HL.out rfl HR2.out hln (by simp) ?_; intro v2 w2 h1 hg1; obtain ⟨⟨a2, c2, rfl⟩, hD, hF⟩ := FIN.out _ _ h1 hg1; have k0 := hD.c0; have k1 := hD.c1; have k2 := hD.f0; have k3 := hD.f1; have HF := Lib.hid hF; clear hD hF h1 hg1)
  exact bodyPost_ret (v := .agg #[.bool false, .slice a2 l.length c2]) (by simp [results, Tryz.results135, go_sem, k0, k1]) rfl ⟨_, by rw [sgB_plain], (HF.out _ _).1, (HF.out _ _).2⟩
 | true =>
  by_cases h0 : 0 < l.length
  ·have hS := Lib.hid (sgB_pos (b := true) h0)
   go_wp2_with (at_builtin; refine append_ints rfl _ _ 30 Tryz.underlying30 rfl _ _ _ [] l rfl HL.out rfl HR2.out hln (by simp) ?_; intro v2 w2 h1 hg1; obtain ⟨⟨a2, c2, rfl⟩, hD, hF⟩ := FIN.out _ _ h1 hg1; have k0 := hD.c0; have k1 := hD.c1; have k2 := hD.f0; have k3 := hD.f1; have HF := Lib.hid hF; clear hD hF h1 hg1)
   exact bodyPost_ret (v := .agg #[.bool true, .slice a2 l.length c2]) (by simp [results, Tryz.results135, go_sem, k0, k1]) rfl ⟨_, by rw [hS.out], (HF.out _ _).1, (HF.out _ _).2⟩
  ·have hz : l.length = 0 := by omega
   have hS : Hid (sgB true l = false) := by
    unfold Hid sgB
    rw [decide_eq_false h0]; rfl
   rw [hz] at HR2 FIN ⊢
   clear h0 f1
   go_wp2_with (at_builtin; refine append_ints rfl _ _ 30 Tryz.underlying30 rfl _ _ _ [] l rfl HL.out rfl HR2.out hln (by simp) ?_; intro v2 w2 h1 hg1; obtain ⟨⟨a2, c2, rfl⟩, hD, hF⟩ := FIN.out _ _ h1 hg1; have k0 := hD.c0; have k1 := hD.c1; have k2 := hD.f0; have k3 := hD.f1; have HF := Lib.hid hF; clear hD hF h1 hg1)
   exact bodyPost_ret (v := .agg #[.bool false, .slice a2 0 c2]) (by simp [results, Tryz.results135, go_sem, k0, k1]) rfl ⟨_, by rw [hS.out], (HF.out _ _).1, (HF.out _ _).2⟩
theorem copy_ints {ops : Array Oper} {rest : List Oper} {o : Oper} {a : Act} {Q : Exit → Act → World → Prop} {w : World} (hgd : o.guard = none) (d s : Operand) (T1 T2 : TypeId) (hT : Tryz.prog.underlying T1 = some (.slice 3))
  (ho : o.op = .call { callee := .builtin .copy, args := #[d, s], argTypes := #[T1, T2] }) (g n B : Nat) (v : Value) (l l0 : List Int) (hd : a.eval d = .slice (some ⟨g, 0, none⟩) n n) (hs : a.eval s = v)
  (hO : OwnI w B (.slice (some ⟨g, 0, none⟩) n n) l0) (hr : RowOf iV w v l) (hl : l.length = n) (hn : n ≤ 1099511627776) (hB : B ≤ g)
  (h : ∀ w' x, OwnI w' B (.slice (some ⟨g, 0, none⟩) n n) l → w.grownBy w' (some g) → wpList Tryz.prog ops Q rest (a.put o.dst x) w') : wpList Tryz.prog ops Q (o :: rest) a w := by
 obtain ⟨i0, hi, hz0, hz1, hz2⟩ := info_parts info_int
 obtain ⟨ax, c, rfl, hc, hm, hcell⟩ := hr
 have hl0 : l0.length = n := by
  have := hO.len
  simpa using this
 refine wpList_plain hgd fun K hK => ?_
 cases ax with
 | none =>
  have hl2 : l = [] := by
   cases l with
   | nil => rfl
   | cons y r => obtain ⟨b, o, e, _⟩ := hcell 0 (by simp); cases e
  subst hl2
  obtain rfl : n = 0 := by simpa using hl.symm
  obtain rfl : l0 = [] := List.eq_nil_of_length_eq_zero hl0
  have hrun : (Builtin.copy_ #[T1, T2] o.type #[.slice (some ⟨g, 0, none⟩) 0 0, .slice none 0 c]).run Tryz.prog w = .ok (goInt 0) w := by
   simp [Builtin.copy_, run_underlying hT, sizeOf, typeInfo, hi, Builtin.lenOf, Builtin.firstCells, storeCells]
  unfold Oper.wp
  simp only [List.length_nil] at hs
  simp [execOp, ho, resolve, invoke, builtin, hd, hs, hrun, Result.andThen]
  exact hK _ _ (h w _ hO (grownBy_refl _ _))
 | some ad =>
  have hrun := run_copy_row (P := Tryz.prog) w T1 T2 o.type 3 g 0 n n ad l.length c (l0.map iV).toArray 3 (l.map iV) hT (by simp [hi, hz1]) (ownI_heap hO)
   (by rw [List.length_map, hl]; exact (Nat.min_self n).symm)
   (fun j u hj => by
    obtain ⟨hj1, hj2⟩ := List.getElem?_eq_some_iff.1 hj
    rw [List.length_map] at hj1
    obtain ⟨b, o', e, hx'⟩ := hcell j hj1
    injection e with e
    subst e
    rw [add_plain, hx', ← hj2]
    simp)
   (by simp [hl, hl0]) (fun u hu => by
    obtain ⟨z, _, rfl⟩ := List.mem_map.1 hu
    rfl)
  have e : (((l0.map iV).toArray.toList.take 0 ++ l.map iV ++ (l0.map iV).toArray.toList.drop (0 + (l.map iV).length)).toArray) = (l.map iV).toArray := by
   have : (l0.map iV).toArray.toList.drop (0 + (l.map iV).length) = [] := by
    apply List.drop_of_length_le
    simp [hl, hl0]
   rw [this]; simp
  rw [e] at hrun
  unfold Oper.wp
  simp [execOp, ho, resolve, invoke, builtin, hd, hs, hrun, Result.andThen]
  exact hK _ _ (h (w.setRow g (l.map iV).toArray) _ (heap_ownI (setRow_heap w g _ _ _ _ (ownI_heap hO)) hB hl (by unfold maxLen; omega)) (setRow_grown _ _ _))
set_option maxHeartbeats 1000000 in
theorem impl_withSign (b : Bool) (va : Value) (T : Nat) (w : World) (ha : RowOf iV w va (limI T)) :
  Calls Tryz.prog 141 #[.bool b, va] w fun e w' => ∃ v, e = .returned (.agg #[.bool (sgB b (capL T)), v]) ∧ OwnI w' w.heap.size v (capL T) ∧ Below w.heap.size w w' := by
 have bA := (Below.refl w.heap.size w).alloc (Nat.le_refl _) (.cells #[.bool false, .slice none 0 0] 32)
 have H := Lib.hid (impl_limitedR va T _ (rowOf_below ha bA))
 have hcl := capL_len T
 obtain ⟨a, c, rfl, e1, e2, e3⟩ := ha
 clear e1 e2 e3
 generalize capL T = l at H hcl ⊢
 obtain ⟨n, hn⟩ : ∃ n, l.length = n := ⟨_, rfl⟩
 rw [hn] at hcl
 have HN := Lib.hid hn
 clear hn
 go_enter Tryz.func141, Tryz.ntmps141
 go_wp2_with fail
 refine H.out.mono ?_
 rintro e w1 ⟨v', rfl, hr, rfl⟩
 clear H
 have HR := Lib.hid hr
 obtain ⟨a1, c1, rfl, f1, f2, f3⟩ := hr
 rw [HN.out] at HR f1 ⊢
 unfold maxLen at f2
 clear f3 bA
 have hmk := make_ints n (by omega)
 have HL0 := zeroObj_own (w.alloc (.cells #[.bool false, .slice none 0 0] 32)) (w.alloc (.cells #[.bool false, .slice none 0 0] 32)).heap.size n (Nat.le_refl _) (by omega)
 simp only [World.size_alloc] at HL0
 have HL := Lib.hid HL0
 clear HL0
 have HD := Lib.hid ((Bx.new w 32 false (.slice none 0 0)).alloc (zeroObj n))
 have HR2 := Lib.hid (rowOf_below HR.out ((Below.refl _ _).alloc (Nat.le_refl _) (zeroObj n)))
 have FIN : Hid (∀ (w1 : World), OwnI w1 (w.heap.size + 1) (.slice (some ⟨w.heap.size + 1, 0, none⟩) n n) l → ((w.alloc (.cells #[.bool false, .slice none 0 0] 32)).alloc (zeroObj n)).grownBy w1 (some (w.heap.size + 1)) →
   Bx w1 w.heap.size 32 false (.slice none 0 0) ∧ (∀ x y, OwnI ((w1.setCell ⟨w.heap.size, 0, none⟩ x).setCell ⟨w.heap.size, 1, none⟩ y) w.heap.size (.slice (some ⟨w.heap.size + 1, 0, none⟩) n n) l ∧ Below w.heap.size w ((w1.setCell ⟨w.heap.size, 0, none⟩ x).setCell ⟨w.heap.size, 1, none⟩ y))) := fun w1 h1 hg => by
  refine ⟨HD.out.kept hg (fun e => by injection e with e; omega), fun x y => ⟨((h1.old (by omega) 0 x).old (by omega) 1 y).base (by omega), ?_⟩⟩
  have b1 := (((Below.refl w.heap.size w).alloc (Nat.le_refl _) (.cells #[.bool false, .slice none 0 0] 32)).alloc (by simp) (zeroObj n)).grown hg (by simp; omega) (fun g e => by injection e with e; omega)
  exact (b1.setCell (Nat.le_refl _) x).setCell (Nat.le_refl _) y
 clear HD HR
 have hn0 : (0 : Int) ≤ n := by omega
 cases b with
 | false =>
  go_wp2_with (refine copy_ints rfl (.tmp 16) (.tmp 17) 30 120 Tryz.underlying30 rfl (w.heap.size + 1) _ _ _ l _ rfl rfl HL.out HR2.out HN.out (by omega) (Nat.le_refl _) ?_; intro w2 x2 h1 hg1; obtain ⟨hD, hF⟩ := FIN.out _ h1 hg1; have k0 := hD.c0; have k1 := hD.c1; have k2 := hD.f0; have k3 := hD.f1; have HF := Lib.hid hF; clear hD hF h1 hg1)
  exact bodyPost_ret (v := .agg #[.bool false, .slice (some ⟨w.heap.size + 1, 0, none⟩) n n]) (by simp [results, Tryz.results141, go_sem, k0, k1]) rfl ⟨_, by rw [sgB_plain], (HF.out _ _).1, (HF.out _ _).2⟩
 | true =>
  by_cases h0 : 0 < n
  ·have hS := Lib.hid (sgB_pos (b := true) (l := l) (by rw [HN.out]; exact h0))
   go_wp2_with (refine copy_ints rfl (.tmp 16) (.tmp 17) 30 120 Tryz.underlying30 rfl (w.heap.size + 1) _ _ _ l _ rfl rfl HL.out HR2.out HN.out (by omega) (Nat.le_refl _) ?_; intro w2 x2 h1 hg1; obtain ⟨hD, hF⟩ := FIN.out _ h1 hg1; have k0 := hD.c0; have k1 := hD.c1; have k2 := hD.f0; have k3 := hD.f1; have HF := Lib.hid hF; clear hD hF h1 hg1)
   exact bodyPost_ret (v := .agg #[.bool true, .slice (some ⟨w.heap.size + 1, 0, none⟩) n n]) (by simp [results, Tryz.results141, go_sem, k0, k1]) rfl ⟨_, by rw [hS.out], (HF.out _ _).1, (HF.out _ _).2⟩
  ·have hS : Hid (sgB true l = false) := by
    unfold Hid sgB
    rw [HN.out, decide_eq_false h0]; rfl
   have h0' : decide ((0 : Int) < n) = false := by simp; omega
   go_wp2_with (refine copy_ints rfl (.tmp 16) (.tmp 17) 30 120 Tryz.underlying30 rfl (w.heap.size + 1) _ _ _ l _ rfl rfl HL.out HR2.out HN.out (by omega) (Nat.le_refl _) ?_; intro w2 x2 h1 hg1; obtain ⟨hD, hF⟩ := FIN.out _ h1 hg1; have k0 := hD.c0; have k1 := hD.c1; have k2 := hD.f0; have k3 := hD.f1; have HF := Lib.hid hF; clear hD hF h1 hg1)
   exact bodyPost_ret (v := .agg #[.bool false, .slice (some ⟨w.heap.size + 1, 0, none⟩) n n]) (by simp [results, Tryz.results141, go_sem, k0, k1]) rfl ⟨_, by rw [hS.out], (HF.out _ _).1, (HF.out _ _).2⟩
end Go.Proofs.YtlepgkkpopjgoaaGreat
namespace Go.Proofs.YtlepgkkpopjgoaaGreat
set_option maxRecDepth 100000
set_option linter.unusedVariables false
set_option linter.unusedSimpArgs false
open Go.RowKit
def sgAddB (b0 : Bool) (x : Nat) (b1 : Bool) (y : Nat) : Bool := if b0 = b1 then b0 else if y ≤ x then b0 else b1
def sgAddN (b0 : Bool) (x : Nat) (b1 : Bool) (y : Nat) : Nat := if b0 = b1 then x + y else if y ≤ x then x - y else y - x
theorem sgAdd_same (b : Bool) (x y : Nat) : sgAddB b x b y = b ∧ sgAddN b x b y = x + y := by unfold sgAddB sgAddN; simp
theorem sgAdd_left {b0 b1 : Bool} (h : b0 ≠ b1) {x y : Nat} (hxy : y ≤ x) : sgAddB b0 x b1 y = b0 ∧ sgAddN b0 x b1 y = x - y := by unfold sgAddB sgAddN; rw [if_neg h, if_neg h, if_pos hxy, if_pos hxy]; exact ⟨rfl, rfl⟩
theorem sgAdd_right {b0 b1 : Bool} (h : b0 ≠ b1) {x y : Nat} (hxy : ¬ y ≤ x) : sgAddB b0 x b1 y = b1 ∧ sgAddN b0 x b1 y = y - x := by unfold sgAddB sgAddN; rw [if_neg h, if_neg h, if_neg hxy, if_neg hxy]; exact ⟨rfl, rfl⟩
theorem cmp_geq {x y : Nat} : (0 ≤ cmpN x y) ↔ y ≤ x := by unfold cmpN; split <;> (try split) <;> omega
theorem cmp_gtr {x y : Nat} : (0 < cmpN x y) ↔ y < x := by unfold cmpN; split <;> (try split) <;> omega
theorem row_limF {w : World} {v : Value} {x : Nat} (h : RowOf iV w v (limI x)) : RowOf iV w v (listF (nlen x) (digF x)) := h
theorem big_end {w wn : World} {p B : Nat} {v : Value} {l : List Int} (hB : Below w.heap.size w wn) (ho : OwnI wn B v l) (hp : p < B) (h1 : w.heap.size ≤ B) (h2 : w.heap.size ≤ p) (x y : Value) :
  OwnI ((wn.setCell ⟨p, 0, none⟩ x).setCell ⟨p, 1, none⟩ y) w.heap.size v l ∧ Below w.heap.size w ((wn.setCell ⟨p, 0, none⟩ x).setCell ⟨p, 1, none⟩ y) :=
 ⟨((ho.old hp 0 x).old hp 1 y).base h1, (hB.setCell h2 x).setCell h2 y⟩
set_option maxHeartbeats 1000000 in
theorem spec_addBig (b0 : Bool) (va : Value) (x : Nat) (b1 : Bool) (vb : Value) (y : Nat) (w : World) (ha : RowOf iV w va (limI x)) (hb : RowOf iV w vb (limI y)) (hx : nlen x ≤ 400) (hy : nlen y ≤ 400) :
  Calls Tryz.prog 192 #[.agg #[.bool b0, va], .agg #[.bool b1, vb]] w fun e w' => ∃ v, e = .returned (.agg #[.bool (sgB (sgAddB b0 x b1 y) (capL (sgAddN b0 x b1 y))), v]) ∧ OwnI w' w.heap.size v (capL (sgAddN b0 x b1 y)) ∧ Below w.heap.size w w' := by
 have RA := Lib.hid ha
 have RB := Lib.hid hb
 obtain ⟨aa, ca, rfl, h1, h2, h3⟩ := ha
 obtain ⟨ab, cb, rfl, h4, h5, h6⟩ := hb
 clear h1 h2 h3 h4 h5 h6
 rw [limI_length] at RA ⊢
 rw [limI_length] at RB ⊢
 obtain ⟨nx, hnx⟩ : ∃ n, nlen x = n := ⟨_, rfl⟩
 obtain ⟨ny, hny⟩ : ∃ n, nlen y = n := ⟨_, rfl⟩
 have HX := Lib.hid hx
 have HY := Lib.hid hy
 rw [hnx] at RA ⊢
 rw [hny] at RB ⊢
 clear hnx hny hx hy
 by_cases hb : b0 = b1
 ·subst hb
  have HE := Lib.hid (sgAdd_same b0 x y)
  have hbb : (b0 == b0) = true := by simp
  rw [HE.out.1, HE.out.2]
  go_enter Tryz.func192, Tryz.ntmps192
  go_wp2_with fail
  obtain ⟨W0, hW0⟩ : ∃ x, x = (((w.alloc (.cells #[.bool b0, .slice aa nx ca] 32)).alloc (.cells #[.bool b0, .slice ab ny cb] 32)).alloc (.cells #[.bool false, .slice none 0 0] 32)) := ⟨_, rfl⟩
  have B := Lib.hid (show Below w.heap.size w W0 by rw [hW0]; exact ((((Below.refl _ _).alloc (Nat.le_refl _) _).alloc (by simp) _).alloc (by simp; omega) _))
  have D_x := Lib.hid (bx_at (show Bx W0 _ 32 b0 (.slice aa nx ca) by rw [hW0]; exact ((Bx.new _ _ _ _).alloc _).alloc _) (show w.heap.size = _ by simp))
  have D_y := Lib.hid (bx_at (show Bx W0 _ 32 b0 (.slice ab ny cb) by rw [hW0]; exact (Bx.new _ _ _ _).alloc _) (show (w.heap.size + 1) = _ by simp))
  have D_r := Lib.hid (bx_at (show Bx W0 _ 32 false (.slice none 0 0) by rw [hW0]; exact Bx.new _ _ _ _) (show (w.heap.size + 1 + 1) = _ by simp))
  have SZ := Lib.hid (show W0.heap.size = w.heap.size + 1 + 1 + 1 by rw [hW0]; simp)
  rw [← hW0]
  clear hW0
  have c0_x := D_x.out.c0
  have c1_x := D_x.out.c1
  have c0_y := D_y.out.c0
  have c1_y := D_y.out.c1
  have c0_r := D_r.out.c0
  have c1_r := D_r.out.c1
  have f0_r := D_r.out.f0
  have f1_r := D_r.out.f1
  have lt_x := D_x.out.lt
  have lt_y := D_y.out.lt
  have lt_r := D_r.out.lt
  go_region_held3 (fun w' => w'.cell? ⟨w.heap.size, 0, none⟩ = some (.bool b0) ∧ w'.cell? ⟨w.heap.size, 1, none⟩ = some ((.slice aa nx ca)) ∧ w'.cell? ⟨(w.heap.size + 1), 0, none⟩ = some (.bool b0) ∧ w'.cell? ⟨(w.heap.size + 1), 1, none⟩ = some ((.slice ab ny cb))) (first | exact ⟨d2_0_x, d2_1_x, d2_0_y, d2_1_y⟩ | exact ⟨d1_0_x, d1_1_x, d1_0_y, d1_1_y⟩ | exact ⟨(cell_far (by omega) _ _).trans d2_0_x, (cell_far (by omega) _ _).trans d2_1_x, (cell_far (by omega) _ _).trans d2_0_y, (cell_far (by omega) _ _).trans d2_1_y⟩ | exact ⟨c0_x, c1_x, c0_y, c1_y⟩)
   (first
    | (have := bb1; go_at_call 135; refine (spec_make b0 _ (x + y) m _ o_q.row hq).mono ?_; rintro e w2 ⟨v_r0, rfl, o_r0, bw2⟩; obtain ⟨a_r0, c_r0, rfl⟩ := o_r0.slice; have bb2 : Below W0.heap.size W0 w2 := bb1.trans (bw2.mono bb1.size); have d2_0_x := (bb2.cell (p := ⟨w.heap.size, 0, none⟩) lt_x).trans c0_x; have d2_1_x := (bb2.cell (p := ⟨w.heap.size, 1, none⟩) lt_x).trans c1_x; have d2_0_y := (bb2.cell (p := ⟨(w.heap.size + 1), 0, none⟩) lt_y).trans c0_y; have d2_1_y := (bb2.cell (p := ⟨(w.heap.size + 1), 1, none⟩) lt_y).trans c1_y; have d2_0_r := (bb2.cell (p := ⟨(w.heap.size + 1 + 1), 0, none⟩) lt_r).trans c0_r; have d2_1_r := (bb2.cell (p := ⟨(w.heap.size + 1 + 1), 1, none⟩) lt_r).trans c1_r; have e2_0_r := (bb2.frozen (p := ⟨(w.heap.size + 1 + 1), 0, none⟩) lt_r).trans f0_r; have e2_1_r := (bb2.frozen (p := ⟨(w.heap.size + 1 + 1), 1, none⟩) lt_r).trans f1_r)
    | (go_at_call 198; refine (spec_add _ _ x y _ (rowOf_below RA.out (B.out.trans (Below.mono (by first | exact Below.refl _ _ | exact (Below.refl _ _).drew) B.out.size))) (rowOf_below RB.out (B.out.trans (Below.mono (by first | exact Below.refl _ _ | exact (Below.refl _ _).drew) B.out.size))) (by have := HX.out; omega) (by have := HY.out; omega)).mono ?_; rintro e w1 ⟨v_q, rfl, m, o_q, hq, bw1⟩; have bb1 : Below W0.heap.size W0 w1 := (by first | exact bw1 | exact ((Below.refl _ _).drew).trans bw1); have d1_0_x := (bb1.cell (p := ⟨w.heap.size, 0, none⟩) lt_x).trans c0_x; have d1_1_x := (bb1.cell (p := ⟨w.heap.size, 1, none⟩) lt_x).trans c1_x; have d1_0_y := (bb1.cell (p := ⟨(w.heap.size + 1), 0, none⟩) lt_y).trans c0_y; have d1_1_y := (bb1.cell (p := ⟨(w.heap.size + 1), 1, none⟩) lt_y).trans c1_y; have d1_0_r := (bb1.cell (p := ⟨(w.heap.size + 1 + 1), 0, none⟩) lt_r).trans c0_r; have d1_1_r := (bb1.cell (p := ⟨(w.heap.size + 1 + 1), 1, none⟩) lt_r).trans c1_r; have e1_0_r := (bb1.frozen (p := ⟨(w.heap.size + 1 + 1), 0, none⟩) lt_r).trans f0_r; have e1_1_r := (bb1.frozen (p := ⟨(w.heap.size + 1 + 1), 1, none⟩) lt_r).trans f1_r))
  clear bw1
  have bw1 := bb1
  replace D_x := Lib.hid (D_x.out.below bw1)
  replace D_y := Lib.hid (D_y.out.below bw1)
  replace D_r := Lib.hid (D_r.out.below bw1)
  have Z1 := Lib.hid bw1.size
  replace B := Lib.hid (B.out.trans (bw1.mono B.out.size))
  clear bw1
  replace D_x := Lib.hid (D_x.out.below bw2)
  replace D_y := Lib.hid (D_y.out.below bw2)
  replace D_r := Lib.hid (D_r.out.below bw2)
  have Z2 := Lib.hid bw2.size
  replace B := Lib.hid (B.out.trans (bw2.mono B.out.size))
  have O_r0 := Lib.hid o_r0
  clear o_r0
  clear bw2
  clear bb1 bb2
  clear c0_x c1_x
  clear c0_y c1_y
  clear lt_x
  clear lt_y
  clear lt_r
  clear c0_r c1_r f0_r f1_r
  have c0_r := D_r.out.c0
  have c1_r := D_r.out.c1
  have f0_r := D_r.out.f0
  have f1_r := D_r.out.f1
  go_wp2
  obtain ⟨e1, e2⟩ := big_end (p := (w.heap.size + 1 + 1)) B.out O_r0.out (by have := SZ.out; have := Z1.out; have := Z2.out; omega) (by have := SZ.out; have := Z1.out; have := Z2.out; omega) (by omega) (.bool (sgB b0 (capL (x + y)))) (.slice a_r0 (capL (x + y)).length c_r0)
  exact bodyPost_ret (v := .agg #[.bool (sgB b0 (capL (x + y))), .slice a_r0 (capL (x + y)).length c_r0]) (by simp [results, Tryz.results192, go_sem, c0_r, c1_r]) rfl ⟨_, rfl, e1, e2⟩
 ·have hbb : (b0 == b1) = false := by simpa using hb
  by_cases hxy : y ≤ x
  ·have HE := Lib.hid (sgAdd_left hb hxy)
   have hc : 0 ≤ cmpN x y := cmp_geq.2 hxy
   have HXY := Lib.hid hxy
   clear hb hxy
   obtain ⟨cm, hcm⟩ : ∃ c, cmpN x y = c := ⟨_, rfl⟩
   rw [hcm] at hc
   rw [HE.out.1, HE.out.2]
   have HCM := Lib.hid hcm
   clear hcm
   go_enter Tryz.func192, Tryz.ntmps192
   go_wp2_with fail
   obtain ⟨W0, hW0⟩ : ∃ x, x = (((w.alloc (.cells #[.bool b0, .slice aa nx ca] 32)).alloc (.cells #[.bool b1, .slice ab ny cb] 32)).alloc (.cells #[.bool false, .slice none 0 0] 32)) := ⟨_, rfl⟩
   have B := Lib.hid (show Below w.heap.size w W0 by rw [hW0]; exact ((((Below.refl _ _).alloc (Nat.le_refl _) _).alloc (by simp) _).alloc (by simp; omega) _))
   have D_x := Lib.hid (bx_at (show Bx W0 _ 32 b0 (.slice aa nx ca) by rw [hW0]; exact ((Bx.new _ _ _ _).alloc _).alloc _) (show w.heap.size = _ by simp))
   have D_y := Lib.hid (bx_at (show Bx W0 _ 32 b1 (.slice ab ny cb) by rw [hW0]; exact (Bx.new _ _ _ _).alloc _) (show (w.heap.size + 1) = _ by simp))
   have D_r := Lib.hid (bx_at (show Bx W0 _ 32 false (.slice none 0 0) by rw [hW0]; exact Bx.new _ _ _ _) (show (w.heap.size + 1 + 1) = _ by simp))
   have SZ := Lib.hid (show W0.heap.size = w.heap.size + 1 + 1 + 1 by rw [hW0]; simp)
   rw [← hW0]
   clear hW0
   refine (spec_cmp _ _ x y _ (rowOf_below RA.out B.out) (rowOf_below RB.out B.out) (by have := HX.out; omega) (by have := HY.out; omega)).mono ?_
   rw [HCM.out]
   rintro e w1 ⟨rfl, b1'⟩
   replace D_x := Lib.hid (D_x.out.below b1')
   replace D_y := Lib.hid (D_y.out.below b1')
   replace D_r := Lib.hid (D_r.out.below b1')
   have Z1 := Lib.hid b1'.size
   replace B := Lib.hid (B.out.trans (b1'.mono B.out.size))
   clear b1'
   have c0_x := D_x.out.c0
   have c1_x := D_x.out.c1
   have c0_y := D_y.out.c0
   have c1_y := D_y.out.c1
   go_wp2_with fail
   have c0_r := D_r.out.c0
   have c1_r := D_r.out.c1
   have f0_r := D_r.out.f0
   have f1_r := D_r.out.f1
   have lt_x := D_x.out.lt
   have lt_y := D_y.out.lt
   have lt_r := D_r.out.lt
   go_region_held3 (fun w' => w'.cell? ⟨w.heap.size, 0, none⟩ = some (.bool b0) ∧ w'.cell? ⟨w.heap.size, 1, none⟩ = some ((.slice aa nx ca)) ∧ w'.cell? ⟨(w.heap.size + 1), 0, none⟩ = some (.bool b1) ∧ w'.cell? ⟨(w.heap.size + 1), 1, none⟩ = some ((.slice ab ny cb))) (first | exact ⟨d3_0_x, d3_1_x, d3_0_y, d3_1_y⟩ | exact ⟨d2_0_x, d2_1_x, d2_0_y, d2_1_y⟩ | exact ⟨(cell_far (by omega) _ _).trans d3_0_x, (cell_far (by omega) _ _).trans d3_1_x, (cell_far (by omega) _ _).trans d3_0_y, (cell_far (by omega) _ _).trans d3_1_y⟩ | exact ⟨c0_x, c1_x, c0_y, c1_y⟩)
    (first
     | (have := bb2; go_at_call 135; refine (spec_make b0 _ (x - y) _ _ (row_limF o_q.row) (Nat.le_refl _)).mono ?_; rintro e w3 ⟨v_r0, rfl, o_r0, bw3⟩; obtain ⟨a_r0, c_r0, rfl⟩ := o_r0.slice; have bb3 : Below w1.heap.size w1 w3 := bb2.trans (bw3.mono bb2.size); have d3_0_x := (bb3.cell (p := ⟨w.heap.size, 0, none⟩) lt_x).trans c0_x; have d3_1_x := (bb3.cell (p := ⟨w.heap.size, 1, none⟩) lt_x).trans c1_x; have d3_0_y := (bb3.cell (p := ⟨(w.heap.size + 1), 0, none⟩) lt_y).trans c0_y; have d3_1_y := (bb3.cell (p := ⟨(w.heap.size + 1), 1, none⟩) lt_y).trans c1_y; have d3_0_r := (bb3.cell (p := ⟨(w.heap.size + 1 + 1), 0, none⟩) lt_r).trans c0_r; have d3_1_r := (bb3.cell (p := ⟨(w.heap.size + 1 + 1), 1, none⟩) lt_r).trans c1_r; have e3_0_r := (bb3.frozen (p := ⟨(w.heap.size + 1 + 1), 0, none⟩) lt_r).trans f0_r; have e3_1_r := (bb3.frozen (p := ⟨(w.heap.size + 1 + 1), 1, none⟩) lt_r).trans f1_r)
     | (go_at_call 182; refine (spec_sub _ _ x y _ (rowOf_below RA.out (B.out.trans (Below.mono (by first | exact Below.refl _ _ | exact (Below.refl _ _).drew) B.out.size))) (rowOf_below RB.out (B.out.trans (Below.mono (by first | exact Below.refl _ _ | exact (Below.refl _ _).drew) B.out.size))) (by have := HXY.out; omega) (by have := HX.out; have := HY.out; omega) (by have := HX.out; have := HY.out; omega)).mono ?_; rintro e w2 ⟨v_q, rfl, o_q, bw2⟩; have bb2 : Below w1.heap.size w1 w2 := (by first | exact bw2 | exact ((Below.refl _ _).drew).trans bw2); have d2_0_x := (bb2.cell (p := ⟨w.heap.size, 0, none⟩) lt_x).trans c0_x; have d2_1_x := (bb2.cell (p := ⟨w.heap.size, 1, none⟩) lt_x).trans c1_x; have d2_0_y := (bb2.cell (p := ⟨(w.heap.size + 1), 0, none⟩) lt_y).trans c0_y; have d2_1_y := (bb2.cell (p := ⟨(w.heap.size + 1), 1, none⟩) lt_y).trans c1_y; have d2_0_r := (bb2.cell (p := ⟨(w.heap.size + 1 + 1), 0, none⟩) lt_r).trans c0_r; have d2_1_r := (bb2.cell (p := ⟨(w.heap.size + 1 + 1), 1, none⟩) lt_r).trans c1_r; have e2_0_r := (bb2.frozen (p := ⟨(w.heap.size + 1 + 1), 0, none⟩) lt_r).trans f0_r; have e2_1_r := (bb2.frozen (p := ⟨(w.heap.size + 1 + 1), 1, none⟩) lt_r).trans f1_r))
   clear bw2
   have bw2 := bb2
   replace D_x := Lib.hid (D_x.out.below bw2)
   replace D_y := Lib.hid (D_y.out.below bw2)
   replace D_r := Lib.hid (D_r.out.below bw2)
   have Z2 := Lib.hid bw2.size
   replace B := Lib.hid (B.out.trans (bw2.mono B.out.size))
   clear bw2
   replace D_x := Lib.hid (D_x.out.below bw3)
   replace D_y := Lib.hid (D_y.out.below bw3)
   replace D_r := Lib.hid (D_r.out.below bw3)
   have Z3 := Lib.hid bw3.size
   replace B := Lib.hid (B.out.trans (bw3.mono B.out.size))
   have O_r0 := Lib.hid o_r0
   clear o_r0
   clear bw3
   clear bb2 bb3
   clear c0_x c1_x
   clear c0_y c1_y
   clear lt_x
   clear lt_y
   clear lt_r
   clear c0_r c1_r f0_r f1_r
   have c0_r := D_r.out.c0
   have c1_r := D_r.out.c1
   have f0_r := D_r.out.f0
   have f1_r := D_r.out.f1
   go_wp2
   obtain ⟨e1, e2⟩ := big_end (p := (w.heap.size + 1 + 1)) B.out O_r0.out (by have := SZ.out; have := Z1.out; have := Z2.out; have := Z3.out; omega) (by have := SZ.out; have := Z1.out; have := Z2.out; have := Z3.out; omega) (by omega) (.bool (sgB b0 (capL (x - y)))) (.slice a_r0 (capL (x - y)).length c_r0)
   exact bodyPost_ret (v := .agg #[.bool (sgB b0 (capL (x - y))), .slice a_r0 (capL (x - y)).length c_r0]) (by simp [results, Tryz.results192, go_sem, c0_r, c1_r]) rfl ⟨_, rfl, e1, e2⟩
  ·have HE := Lib.hid (sgAdd_right hb hxy)
   have hc : ¬ 0 ≤ cmpN x y := fun h => hxy (cmp_geq.1 h)
   have HXY := Lib.hid hxy
   clear hb hxy
   obtain ⟨cm, hcm⟩ : ∃ c, cmpN x y = c := ⟨_, rfl⟩
   rw [hcm] at hc
   rw [HE.out.1, HE.out.2]
   have HCM := Lib.hid hcm
   clear hcm
   go_enter Tryz.func192, Tryz.ntmps192
   go_wp2_with fail
   obtain ⟨W0, hW0⟩ : ∃ x, x = (((w.alloc (.cells #[.bool b0, .slice aa nx ca] 32)).alloc (.cells #[.bool b1, .slice ab ny cb] 32)).alloc (.cells #[.bool false, .slice none 0 0] 32)) := ⟨_, rfl⟩
   have B := Lib.hid (show Below w.heap.size w W0 by rw [hW0]; exact ((((Below.refl _ _).alloc (Nat.le_refl _) _).alloc (by simp) _).alloc (by simp; omega) _))
   have D_x := Lib.hid (bx_at (show Bx W0 _ 32 b0 (.slice aa nx ca) by rw [hW0]; exact ((Bx.new _ _ _ _).alloc _).alloc _) (show w.heap.size = _ by simp))
   have D_y := Lib.hid (bx_at (show Bx W0 _ 32 b1 (.slice ab ny cb) by rw [hW0]; exact (Bx.new _ _ _ _).alloc _) (show (w.heap.size + 1) = _ by simp))
   have D_r := Lib.hid (bx_at (show Bx W0 _ 32 false (.slice none 0 0) by rw [hW0]; exact Bx.new _ _ _ _) (show (w.heap.size + 1 + 1) = _ by simp))
   have SZ := Lib.hid (show W0.heap.size = w.heap.size + 1 + 1 + 1 by rw [hW0]; simp)
   rw [← hW0]
   clear hW0
   refine (spec_cmp _ _ x y _ (rowOf_below RA.out B.out) (rowOf_below RB.out B.out) (by have := HX.out; omega) (by have := HY.out; omega)).mono ?_
   rw [HCM.out]
   rintro e w1 ⟨rfl, b1'⟩
   replace D_x := Lib.hid (D_x.out.below b1')
   replace D_y := Lib.hid (D_y.out.below b1')
   replace D_r := Lib.hid (D_r.out.below b1')
   have Z1 := Lib.hid b1'.size
   replace B := Lib.hid (B.out.trans (b1'.mono B.out.size))
   clear b1'
   have c0_x := D_x.out.c0
   have c1_x := D_x.out.c1
   have c0_y := D_y.out.c0
   have c1_y := D_y.out.c1
   go_wp2_with fail
   have c0_r := D_r.out.c0
   have c1_r := D_r.out.c1
   have f0_r := D_r.out.f0
   have f1_r := D_r.out.f1
   have lt_x := D_x.out.lt
   have lt_y := D_y.out.lt
   have lt_r := D_r.out.lt
   go_region_held3 (fun w' => w'.cell? ⟨w.heap.size, 0, none⟩ = some (.bool b0) ∧ w'.cell? ⟨w.heap.size, 1, none⟩ = some ((.slice aa nx ca)) ∧ w'.cell? ⟨(w.heap.size + 1), 0, none⟩ = some (.bool b1) ∧ w'.cell? ⟨(w.heap.size + 1), 1, none⟩ = some ((.slice ab ny cb))) (first | exact ⟨d3_0_x, d3_1_x, d3_0_y, d3_1_y⟩ | exact ⟨d2_0_x, d2_1_x, d2_0_y, d2_1_y⟩ | exact ⟨(cell_far (by omega) _ _).trans d3_0_x, (cell_far (by omega) _ _).trans d3_1_x, (cell_far (by omega) _ _).trans d3_0_y, (cell_far (by omega) _ _).trans d3_1_y⟩ | exact ⟨c0_x, c1_x, c0_y, c1_y⟩)
    (first
     | (have := bb2; go_at_call 135; refine (spec_make b1 _ (y - x) _ _ (row_limF o_q.row) (Nat.le_refl _)).mono ?_; rintro e w3 ⟨v_r0, rfl, o_r0, bw3⟩; obtain ⟨a_r0, c_r0, rfl⟩ := o_r0.slice; have bb3 : Below w1.heap.size w1 w3 := bb2.trans (bw3.mono bb2.size); have d3_0_x := (bb3.cell (p := ⟨w.heap.size, 0, none⟩) lt_x).trans c0_x; have d3_1_x := (bb3.cell (p := ⟨w.heap.size, 1, none⟩) lt_x).trans c1_x; have d3_0_y := (bb3.cell (p := ⟨(w.heap.size + 1), 0, none⟩) lt_y).trans c0_y; have d3_1_y := (bb3.cell (p := ⟨(w.heap.size + 1), 1, none⟩) lt_y).trans c1_y; have d3_0_r := (bb3.cell (p := ⟨(w.heap.size + 1 + 1), 0, none⟩) lt_r).trans c0_r; have d3_1_r := (bb3.cell (p := ⟨(w.heap.size + 1 + 1), 1, none⟩) lt_r).trans c1_r; have e3_0_r := (bb3.frozen (p := ⟨(w.heap.size + 1 + 1), 0, none⟩) lt_r).trans f0_r; have e3_1_r := (bb3.frozen (p := ⟨(w.heap.size + 1 + 1), 1, none⟩) lt_r).trans f1_r)
     | (go_at_call 182; refine (spec_sub _ _ y x _ (rowOf_below RB.out (B.out.trans (Below.mono (by first | exact Below.refl _ _ | exact (Below.refl _ _).drew) B.out.size))) (rowOf_below RA.out (B.out.trans (Below.mono (by first | exact Below.refl _ _ | exact (Below.refl _ _).drew) B.out.size))) (by have := HXY.out; omega) (by have := HX.out; have := HY.out; omega) (by have := HX.out; have := HY.out; omega)).mono ?_; rintro e w2 ⟨v_q, rfl, o_q, bw2⟩; have bb2 : Below w1.heap.size w1 w2 := (by first | exact bw2 | exact ((Below.refl _ _).drew).trans bw2); have d2_0_x := (bb2.cell (p := ⟨w.heap.size, 0, none⟩) lt_x).trans c0_x; have d2_1_x := (bb2.cell (p := ⟨w.heap.size, 1, none⟩) lt_x).trans c1_x; have d2_0_y := (bb2.cell (p := ⟨(w.heap.size + 1), 0, none⟩) lt_y).trans c0_y; have d2_1_y := (bb2.cell (p := ⟨(w.heap.size + 1), 1, none⟩) lt_y).trans c1_y; have d2_0_r := (bb2.cell (p := ⟨(w.heap.size + 1 + 1), 0, none⟩) lt_r).trans c0_r; have d2_1_r := (bb2.cell (p := ⟨(w.heap.size + 1 + 1), 1, none⟩) lt_r).trans c1_r; have e2_0_r := (bb2.frozen (p := ⟨(w.heap.size + 1 + 1), 0, none⟩) lt_r).trans f0_r; have e2_1_r := (bb2.frozen (p := ⟨(w.heap.size + 1 + 1), 1, none⟩) lt_r).trans f1_r))
   clear bw2
   have bw2 := bb2
   replace D_x := Lib.hid (D_x.out.below bw2)
   replace D_y := Lib.hid (D_y.out.below bw2)
   replace D_r := Lib.hid (D_r.out.below bw2)
   have Z2 := Lib.hid bw2.size
   replace B := Lib.hid (B.out.trans (bw2.mono B.out.size))
   clear bw2
   replace D_x := Lib.hid (D_x.out.below bw3)
   replace D_y := Lib.hid (D_y.out.below bw3)
   replace D_r := Lib.hid (D_r.out.below bw3)
   have Z3 := Lib.hid bw3.size
   replace B := Lib.hid (B.out.trans (bw3.mono B.out.size))
   have O_r0 := Lib.hid o_r0
   clear o_r0
   clear bw3
   clear bb2 bb3
   clear c0_x c1_x
   clear c0_y c1_y
   clear lt_x
   clear lt_y
   clear lt_r
   clear c0_r c1_r f0_r f1_r
   have c0_r := D_r.out.c0
   have c1_r := D_r.out.c1
   have f0_r := D_r.out.f0
   have f1_r := D_r.out.f1
   go_wp2
   obtain ⟨e1, e2⟩ := big_end (p := (w.heap.size + 1 + 1)) B.out O_r0.out (by have := SZ.out; have := Z1.out; have := Z2.out; have := Z3.out; omega) (by have := SZ.out; have := Z1.out; have := Z2.out; have := Z3.out; omega) (by omega) (.bool (sgB b1 (capL (y - x)))) (.slice a_r0 (capL (y - x)).length c_r0)
   exact bodyPost_ret (v := .agg #[.bool (sgB b1 (capL (y - x))), .slice a_r0 (capL (y - x)).length c_r0]) (by simp [results, Tryz.results192, go_sem, c0_r, c1_r]) rfl ⟨_, rfl, e1, e2⟩
set_option maxHeartbeats 1000000 in
theorem impl_plusBig (b0 : Bool) (va : Value) (x : Nat) (b1 : Bool) (vb : Value) (y : Nat) (w : World) (ha : RowOf iV w va (limI x)) (hb : RowOf iV w vb (limI y)) (hx : nlen x ≤ 400) (hy : nlen y ≤ 400) :
  Calls Tryz.prog 175 #[.agg #[.bool b0, va], .bool b1, vb] w fun e w' => ∃ v, e = .returned (.agg #[.bool (sgB (sgAddB b0 x b1 y) (capL (sgAddN b0 x b1 y))), v]) ∧ OwnI w' w.heap.size v (capL (sgAddN b0 x b1 y)) ∧ Below w.heap.size w w' := by
 have RA := Lib.hid ha
 have RB := Lib.hid hb
 obtain ⟨aa, ca, rfl, h1, h2, h3⟩ := ha
 obtain ⟨ab, cb, rfl, h4, h5, h6⟩ := hb
 clear h1 h2 h3 h4 h5 h6
 rw [limI_length] at RA ⊢
 rw [limI_length] at RB ⊢
 obtain ⟨nx, hnx⟩ : ∃ n, nlen x = n := ⟨_, rfl⟩
 obtain ⟨ny, hny⟩ : ∃ n, nlen y = n := ⟨_, rfl⟩
 have HX := Lib.hid hx
 have HY := Lib.hid hy
 rw [hnx] at RA ⊢
 rw [hny] at RB ⊢
 clear hnx hny hx hy
 by_cases hb : b0 = b1
 ·subst hb
  have HE := Lib.hid (sgAdd_same b0 x y)
  have hbb : (b0 == b0) = true := by simp
  rw [HE.out.1, HE.out.2]
  go_enter Tryz.func175, Tryz.ntmps175
  go_wp2_with fail
  obtain ⟨W0, hW0⟩ : ∃ x, x = ((w.alloc (.cells #[.bool b0, .slice aa nx ca] 32)).alloc (.cells #[.bool false, .slice none 0 0] 32)) := ⟨_, rfl⟩
  have B := Lib.hid (show Below w.heap.size w W0 by rw [hW0]; exact (((Below.refl _ _).alloc (Nat.le_refl _) _).alloc (by simp) _))
  have D_x := Lib.hid (bx_at (show Bx W0 _ 32 b0 (.slice aa nx ca) by rw [hW0]; exact (Bx.new _ _ _ _).alloc _) (show w.heap.size = _ by simp))
  have D_r := Lib.hid (bx_at (show Bx W0 _ 32 false (.slice none 0 0) by rw [hW0]; exact Bx.new _ _ _ _) (show (w.heap.size + 1) = _ by simp))
  have SZ := Lib.hid (show W0.heap.size = w.heap.size + 1 + 1 by rw [hW0]; simp)
  rw [← hW0]
  clear hW0
  refine (impl_plus _ _ x y _ (rowOf_below RA.out B.out) (rowOf_below RB.out B.out) (by have := HX.out; have := HY.out; omega) (by have := HX.out; have := HY.out; omega)).mono ?_
  rintro e w1 ⟨v_q, rfl, o_q, b1'⟩
  have HQ := Lib.hid o_q.row
  clear o_q
  replace D_x := Lib.hid (D_x.out.below b1')
  replace D_r := Lib.hid (D_r.out.below b1')
  have Z1 := Lib.hid b1'.size
  replace B := Lib.hid (B.out.trans (b1'.mono B.out.size))
  clear b1'
  go_wp2_with fail
  refine (impl_withSign b0 _ (x + y) _ HQ.out).mono ?_
  rintro e w2 ⟨v_r0, rfl, o_r0, bw2⟩
  obtain ⟨a_r0, c_r0, rfl⟩ := o_r0.slice
  replace D_x := Lib.hid (D_x.out.below bw2)
  replace D_r := Lib.hid (D_r.out.below bw2)
  have Z2 := Lib.hid bw2.size
  replace B := Lib.hid (B.out.trans (bw2.mono B.out.size))
  have O_r0 := Lib.hid o_r0
  clear o_r0
  clear bw2
  have c0_r := D_r.out.c0
  have c1_r := D_r.out.c1
  have f0_r := D_r.out.f0
  have f1_r := D_r.out.f1
  go_wp2
  obtain ⟨e1, e2⟩ := big_end (p := (w.heap.size + 1)) B.out O_r0.out (by have := SZ.out; have := Z1.out; have := Z2.out; omega) (by have := SZ.out; have := Z1.out; have := Z2.out; omega) (by omega) (.bool (sgB b0 (capL (x + y)))) (.slice a_r0 (capL (x + y)).length c_r0)
  exact bodyPost_ret (v := .agg #[.bool (sgB b0 (capL (x + y))), .slice a_r0 (capL (x + y)).length c_r0]) (by simp [results, Tryz.results175, go_sem, c0_r, c1_r]) rfl ⟨_, rfl, e1, e2⟩
 ·have hbb : (b0 == b1) = false := by simpa using hb
  by_cases hxy : y ≤ x
  rotate_left
  ·have HE := Lib.hid (sgAdd_right hb hxy)
   have hc : 0 < cmpN y x := cmp_gtr.2 (by omega)
   have HXY := Lib.hid hxy
   clear hb hxy
   obtain ⟨cm, hcm⟩ : ∃ c, cmpN y x = c := ⟨_, rfl⟩
   rw [hcm] at hc
   rw [HE.out.1, HE.out.2]
   have HCM := Lib.hid hcm
   clear hcm
   go_enter Tryz.func175, Tryz.ntmps175
   go_wp2_with fail
   obtain ⟨W0, hW0⟩ : ∃ x, x = ((w.alloc (.cells #[.bool b0, .slice aa nx ca] 32)).alloc (.cells #[.bool false, .slice none 0 0] 32)) := ⟨_, rfl⟩
   have B := Lib.hid (show Below w.heap.size w W0 by rw [hW0]; exact (((Below.refl _ _).alloc (Nat.le_refl _) _).alloc (by simp) _))
   have D_x := Lib.hid (bx_at (show Bx W0 _ 32 b0 (.slice aa nx ca) by rw [hW0]; exact (Bx.new _ _ _ _).alloc _) (show w.heap.size = _ by simp))
   have D_r := Lib.hid (bx_at (show Bx W0 _ 32 false (.slice none 0 0) by rw [hW0]; exact Bx.new _ _ _ _) (show (w.heap.size + 1) = _ by simp))
   have SZ := Lib.hid (show W0.heap.size = w.heap.size + 1 + 1 by rw [hW0]; simp)
   rw [← hW0]
   clear hW0
   refine (impl_compare _ _ y x _ (rowOf_below RB.out B.out) (rowOf_below RA.out B.out) (by have := HX.out; have := HY.out; omega) (by have := HX.out; have := HY.out; omega)).mono ?_
   rw [HCM.out]
   rintro e w1 ⟨rfl, b1'⟩
   replace D_x := Lib.hid (D_x.out.below b1')
   replace D_r := Lib.hid (D_r.out.below b1')
   have Z1 := Lib.hid b1'.size
   replace B := Lib.hid (B.out.trans (b1'.mono B.out.size))
   clear b1'
   have c0_x := D_x.out.c0
   have c1_x := D_x.out.c1
   go_wp2_with fail
   clear c0_x c1_x
   refine (impl_minus _ _ y x _ (rowOf_below RB.out B.out) (rowOf_below RA.out B.out) (by have := HXY.out; omega) (by have := HX.out; have := HY.out; omega) (by have := HX.out; have := HY.out; omega)).mono ?_
   rintro e w2 ⟨v_q, rfl, o_q, b2'⟩
   have HQ := Lib.hid o_q.row
   clear o_q
   replace D_x := Lib.hid (D_x.out.below b2')
   replace D_r := Lib.hid (D_r.out.below b2')
   have Z2 := Lib.hid b2'.size
   replace B := Lib.hid (B.out.trans (b2'.mono B.out.size))
   clear b2'
   go_wp2_with fail
   refine (impl_withSign b1 _ (y - x) _ HQ.out).mono ?_
   rintro e w3 ⟨v_r0, rfl, o_r0, bw3⟩
   obtain ⟨a_r0, c_r0, rfl⟩ := o_r0.slice
   replace D_x := Lib.hid (D_x.out.below bw3)
   replace D_r := Lib.hid (D_r.out.below bw3)
   have Z3 := Lib.hid bw3.size
   replace B := Lib.hid (B.out.trans (bw3.mono B.out.size))
   have O_r0 := Lib.hid o_r0
   clear o_r0
   clear bw3
   have c0_r := D_r.out.c0
   have c1_r := D_r.out.c1
   have f0_r := D_r.out.f0
   have f1_r := D_r.out.f1
   go_wp2
   obtain ⟨e1, e2⟩ := big_end (p := (w.heap.size + 1)) B.out O_r0.out (by have := SZ.out; have := Z1.out; have := Z2.out; have := Z3.out; omega) (by have := SZ.out; have := Z1.out; have := Z2.out; have := Z3.out; omega) (by omega) (.bool (sgB b1 (capL (y - x)))) (.slice a_r0 (capL (y - x)).length c_r0)
   exact bodyPost_ret (v := .agg #[.bool (sgB b1 (capL (y - x))), .slice a_r0 (capL (y - x)).length c_r0]) (by simp [results, Tryz.results175, go_sem, c0_r, c1_r]) rfl ⟨_, rfl, e1, e2⟩
  ·have HE := Lib.hid (sgAdd_left hb hxy)
   have hc : ¬ 0 < cmpN y x := fun h => (by have := cmp_gtr.1 h; omega)
   have HXY := Lib.hid hxy
   clear hb hxy
   obtain ⟨cm, hcm⟩ : ∃ c, cmpN y x = c := ⟨_, rfl⟩
   rw [hcm] at hc
   rw [HE.out.1, HE.out.2]
   have HCM := Lib.hid hcm
   clear hcm
   go_enter Tryz.func175, Tryz.ntmps175
   go_wp2_with fail
   obtain ⟨W0, hW0⟩ : ∃ x, x = ((w.alloc (.cells #[.bool b0, .slice aa nx ca] 32)).alloc (.cells #[.bool false, .slice none 0 0] 32)) := ⟨_, rfl⟩
   have B := Lib.hid (show Below w.heap.size w W0 by rw [hW0]; exact (((Below.refl _ _).alloc (Nat.le_refl _) _).alloc (by simp) _))
   have D_x := Lib.hid (bx_at (show Bx W0 _ 32 b0 (.slice aa nx ca) by rw [hW0]; exact (Bx.new _ _ _ _).alloc _) (show w.heap.size = _ by simp))
   have D_r := Lib.hid (bx_at (show Bx W0 _ 32 false (.slice none 0 0) by rw [hW0]; exact Bx.new _ _ _ _) (show (w.heap.size + 1) = _ by simp))
   have SZ := Lib.hid (show W0.heap.size = w.heap.size + 1 + 1 by rw [hW0]; simp)
   rw [← hW0]
   clear hW0
   refine (impl_compare _ _ y x _ (rowOf_below RB.out B.out) (rowOf_below RA.out B.out) (by have := HX.out; have := HY.out; omega) (by have := HX.out; have := HY.out; omega)).mono ?_
   rw [HCM.out]
   rintro e w1 ⟨rfl, b1'⟩
   replace D_x := Lib.hid (D_x.out.below b1')
   replace D_r := Lib.hid (D_r.out.below b1')
   have Z1 := Lib.hid b1'.size
   replace B := Lib.hid (B.out.trans (b1'.mono B.out.size))
   clear b1'
   have c0_x := D_x.out.c0
   have c1_x := D_x.out.c1
   go_wp2_with fail
   have c0_r := D_r.out.c0
   have c1_r := D_r.out.c1
   have f0_r := D_r.out.f0
   have f1_r := D_r.out.f1
   have lt_x := D_x.out.lt
   have lt_r := D_r.out.lt
   go_region_held3 (fun w' => w'.cell? ⟨w.heap.size, 0, none⟩ = some (.bool b0) ∧ w'.cell? ⟨w.heap.size, 1, none⟩ = some ((.slice aa nx ca))) (first | exact ⟨d3_0_x, d3_1_x⟩ | exact ⟨d2_0_x, d2_1_x⟩ | exact ⟨(cell_far (by omega) _ _).trans d3_0_x, (cell_far (by omega) _ _).trans d3_1_x⟩ | exact ⟨c0_x, c1_x⟩)
    (first
     | (have := bb2; go_at_call 141; refine (impl_withSign b0 _ (x - y) _ o_q.row).mono ?_; rintro e w3 ⟨v_r0, rfl, o_r0, bw3⟩; obtain ⟨a_r0, c_r0, rfl⟩ := o_r0.slice; have bb3 : Below w1.heap.size w1 w3 := bb2.trans (bw3.mono bb2.size); have d3_0_x := (bb3.cell (p := ⟨w.heap.size, 0, none⟩) lt_x).trans c0_x; have d3_1_x := (bb3.cell (p := ⟨w.heap.size, 1, none⟩) lt_x).trans c1_x; have d3_0_r := (bb3.cell (p := ⟨(w.heap.size + 1), 0, none⟩) lt_r).trans c0_r; have d3_1_r := (bb3.cell (p := ⟨(w.heap.size + 1), 1, none⟩) lt_r).trans c1_r; have e3_0_r := (bb3.frozen (p := ⟨(w.heap.size + 1), 0, none⟩) lt_r).trans f0_r; have e3_1_r := (bb3.frozen (p := ⟨(w.heap.size + 1), 1, none⟩) lt_r).trans f1_r)
     | (go_at_call 191; refine (impl_minus _ _ x y _ (rowOf_below RA.out (B.out.trans (Below.mono (by first | exact Below.refl _ _ | exact (Below.refl _ _).drew) B.out.size))) (rowOf_below RB.out (B.out.trans (Below.mono (by first | exact Below.refl _ _ | exact (Below.refl _ _).drew) B.out.size))) (by have := HXY.out; omega) (by have := HX.out; have := HY.out; omega) (by have := HX.out; have := HY.out; omega)).mono ?_; rintro e w2 ⟨v_q, rfl, o_q, bw2⟩; have bb2 : Below w1.heap.size w1 w2 := (by first | exact bw2 | exact ((Below.refl _ _).drew).trans bw2); have d2_0_x := (bb2.cell (p := ⟨w.heap.size, 0, none⟩) lt_x).trans c0_x; have d2_1_x := (bb2.cell (p := ⟨w.heap.size, 1, none⟩) lt_x).trans c1_x; have d2_0_r := (bb2.cell (p := ⟨(w.heap.size + 1), 0, none⟩) lt_r).trans c0_r; have d2_1_r := (bb2.cell (p := ⟨(w.heap.size + 1), 1, none⟩) lt_r).trans c1_r; have e2_0_r := (bb2.frozen (p := ⟨(w.heap.size + 1), 0, none⟩) lt_r).trans f0_r; have e2_1_r := (bb2.frozen (p := ⟨(w.heap.size + 1), 1, none⟩) lt_r).trans f1_r))
   clear bw2
   have bw2 := bb2
   replace D_x := Lib.hid (D_x.out.below bw2)
   replace D_r := Lib.hid (D_r.out.below bw2)
   have Z2 := Lib.hid bw2.size
   replace B := Lib.hid (B.out.trans (bw2.mono B.out.size))
   clear bw2
   replace D_x := Lib.hid (D_x.out.below bw3)
   replace D_r := Lib.hid (D_r.out.below bw3)
   have Z3 := Lib.hid bw3.size
   replace B := Lib.hid (B.out.trans (bw3.mono B.out.size))
   have O_r0 := Lib.hid o_r0
   clear o_r0
   clear bw3
   clear bb2 bb3
   clear c0_x c1_x
   clear lt_x
   clear lt_r
   clear c0_r c1_r f0_r f1_r
   have c0_r := D_r.out.c0
   have c1_r := D_r.out.c1
   have f0_r := D_r.out.f0
   have f1_r := D_r.out.f1
   go_wp2
   obtain ⟨e1, e2⟩ := big_end (p := (w.heap.size + 1)) B.out O_r0.out (by have := SZ.out; have := Z1.out; have := Z2.out; have := Z3.out; omega) (by have := SZ.out; have := Z1.out; have := Z2.out; have := Z3.out; omega) (by omega) (.bool (sgB b0 (capL (x - y)))) (.slice a_r0 (capL (x - y)).length c_r0)
   exact bodyPost_ret (v := .agg #[.bool (sgB b0 (capL (x - y))), .slice a_r0 (capL (x - y)).length c_r0]) (by simp [results, Tryz.results175, go_sem, c0_r, c1_r]) rfl ⟨_, rfl, e1, e2⟩
end Go.Proofs.YtlepgkkpopjgoaaGreat
namespace Go.Proofs.YtlepgkkpopjgoaaGreat
set_option maxRecDepth 100000
set_option linter.unusedVariables false
set_option linter.unusedSimpArgs false
open Go.RowKit
def bigNegL (b0 : Bool) (zs0 : List Int) : List Int := if bigOk b0 zs0 then capL ((natI zs0)) else []
def bigNegB (b0 : Bool) (zs0 : List Int) : Bool := if bigOk b0 zs0 then sgB (!b0) (capL ((natI zs0))) else false
theorem bigNeg_yes {b0 : Bool} {x : Nat} (h0 : bigOk b0 (limI x) = true) : bigNegB b0 (limI x) = sgB (!b0) (capL (x)) ∧ bigNegL b0 (limI x) = capL (x) := by
 unfold bigNegB bigNegL; rw [h0, natI_limI]; exact ⟨rfl, rfl⟩
theorem bigNeg_no {b0 : Bool} {zs0 : List Int} (h : bigOk b0 zs0 = false) : bigNegB b0 zs0 = false ∧ bigNegL b0 zs0 = [] := by
 unfold bigNegB bigNegL; rw [h]; simp
theorem row_cast {w : World} {v : Value} {l l' : List Int} (h : RowOf iV w v l) (e : l = l') : RowOf iV w v l' := by rw [← e]; exact h
set_option maxHeartbeats 1000000 in
theorem impl_bigNeg (b0 : Bool) (va : Value) (zs0 : List Int) (w : World) (ha : RowOf iV w va zs0) :
  Calls Tryz.prog 117 #[.agg #[.bool b0, va]] w fun e w' => ∃ v, e = .returned (.agg #[.bool (bigNegB b0 zs0), v]) ∧ OwnI w' w.heap.size v (bigNegL b0 zs0) ∧ Below w.heap.size w w' := by
 have K0 := Lib.hid (fun W (hW : Below w.heap.size w W) => impl_bigOk b0 va zs0 W (rowOf_below ha hW))
 cases e0 : bigOk b0 zs0 with
 | false =>
  have HE := Lib.hid (bigNeg_no (zs0 := zs0) e0)
  rw [e0] at K0
  clear e0
  obtain ⟨aa, ca, rfl, h1, h2, h3⟩ := ha
  clear h1 h2 h3
  go_enter Tryz.func117, Tryz.ntmps117
  go_wp2_with (go_at_call 107; refine (K0.out _ (((Below.refl _ _).alloc (Nat.le_refl _) _).alloc (by simp) _)).mono ?_; rintro e w' ⟨rfl, rfl⟩)
  exact bodyPost_ret (v := .agg #[.bool false, .slice none 0 0]) (by simp [results, Tryz.results117, go_sem]) rfl ⟨_, by rw [HE.out.1], by rw [HE.out.2]; exact OwnI.nil _ _, ((((Below.refl _ _).alloc (Nat.le_refl _) _).alloc (by simp) _).alloc (by simp; omega) _)⟩
 | true =>
  obtain ⟨x, rfl, hx⟩ := okB_cases (bigOk_ok e0)
  have HE := Lib.hid (bigNeg_yes e0)
  have HX := Lib.hid ((nlen_le_iff _ _).2 hx)
  have RA := Lib.hid ha
  rw [e0] at K0
  have E0 := Lib.hid e0
  obtain ⟨aa, ca, rfl, h1, h2, h3⟩ := ha
  clear h1 h2 h3
  rw [limI_length] at RA K0 ⊢
  obtain ⟨nx, hnx⟩ : ∃ n, nlen x = n := ⟨_, rfl⟩
  rw [hnx] at RA K0 HX ⊢
  have NX := Lib.hid hnx
  clear hnx hx e0
  rw [HE.out.1, HE.out.2]
  go_enter Tryz.func117, Tryz.ntmps117
  go_wp2_with fail
  refine (K0.out _ (((Below.refl _ _).alloc (Nat.le_refl _) _).alloc (by simp) _)).mono ?_
  rintro e w' ⟨rfl, rfl⟩
  go_wp2_with fail
  obtain ⟨W0, hW0⟩ : ∃ x, x = (((w.alloc (.cells #[.bool b0, .slice aa nx ca] 32)).alloc (.cells #[.bool false, .slice none 0 0] 32)).alloc (.cells #[.bool b0, .slice aa nx ca] 32)) := ⟨_, rfl⟩
  have B := Lib.hid (show Below w.heap.size w W0 by rw [hW0]; exact ((((Below.refl _ _).alloc (Nat.le_refl _) _).alloc (by simp) _).alloc (by simp; omega) _))
  have D_x := Lib.hid (bx_at (show Bx W0 _ 32 b0 (.slice aa nx ca) by rw [hW0]; exact ((Bx.new _ _ _ _).alloc _).alloc _) (show w.heap.size = _ by simp))
  have D_r := Lib.hid (bx_at (show Bx W0 _ 32 false (.slice none 0 0) by rw [hW0]; exact (Bx.new _ _ _ _).alloc _) (show (w.heap.size + 1) = _ by simp))
  have SZ := Lib.hid (show W0.heap.size = w.heap.size + 1 + 1 + 1 by rw [hW0]; simp)
  rw [← hW0]
  clear hW0
  refine (impl_withSign (!b0) _ x _ (rowOf_below RA.out B.out)).mono ?_
  rintro e w1 ⟨v_r0, rfl, o_r0, bw1⟩
  obtain ⟨a_r0, c_r0, rfl⟩ := o_r0.slice
  replace D_x := Lib.hid (D_x.out.below bw1)
  replace D_r := Lib.hid (D_r.out.below bw1)
  have Z1 := Lib.hid bw1.size
  replace B := Lib.hid (B.out.trans (bw1.mono B.out.size))
  have O_r0 := Lib.hid o_r0
  clear o_r0
  clear bw1
  have c0_r := D_r.out.c0
  have c1_r := D_r.out.c1
  have f0_r := D_r.out.f0
  have f1_r := D_r.out.f1
  go_wp2
  obtain ⟨e1, e2⟩ := big_end (p := (w.heap.size + 1)) B.out O_r0.out (by have := SZ.out; have := Z1.out; omega) (by have := SZ.out; have := Z1.out; omega) (by omega) (.bool (sgB (!b0) (capL x))) (.slice a_r0 (capL x).length c_r0)
  exact bodyPost_ret (v := .agg #[.bool (sgB (!b0) (capL x)), .slice a_r0 (capL x).length c_r0]) (by simp [results, Tryz.results117, go_sem, c0_r, c1_r]) rfl ⟨_, rfl, e1, e2⟩
end Go.Proofs.YtlepgkkpopjgoaaGreat
namespace Go.Proofs.YtlepgkkpopjgoaaGreat
open Go.RowKit
theorem limI_min : limI 9223372036854775808 = [854775808, 223372036, 9] := by
 have h : nlen 9223372036854775808 = 2 + 1 := nlen_eq (by simp only [pw]; omega) (by simp only [pw]; omega)
 unfold limI
 rw [h]
 rfl
def ofB (n : Int) : Bool := decide (n < 0)
def ofL (n : Int) : List Int := limI n.natAbs
theorem of_small {N : Nat} (h : N ≤ 9223372036854775808) : capL N = limI N := capL_yes (Nat.lt_of_lt_of_le (by simp only [pw]; omega : N < pw 3) (pw_mono (by omega)))
theorem of_pos {N : Nat} (h : N ≤ 9223372036854775808) (h0 : 0 < N) : ofB (-(N : Int)) = sgB true (capL N) ∧ ofL (-(N : Int)) = capL N := by
 rw [of_small h, sgB_pos (by rw [limI_length]; exact (nlen_pos_iff N).2 h0)]
 exact ⟨by unfold ofB; rw [decide_eq_true (by omega)], by unfold ofL; rw [Int.natAbs_neg, Int.natAbs_natCast]⟩
theorem of_nat {N : Nat} (h : N ≤ 9223372036854775807) : ofB (N : Int) = sgB false (capL N) ∧ ofL (N : Int) = capL N := by
 rw [of_small (by omega), sgB_plain]
 exact ⟨by unfold ofB; rw [decide_eq_false (by omega)], by unfold ofL; rw [Int.natAbs_natCast]⟩
theorem of_cons {N : Nat} (h0 : 0 < N) : [((N % 1000000000 : Nat) : Int)] ++ limI (N / 1000000000) = limI N := by
 have h1 := cons_lim (N / 1000000000) (N % 1000000000) (Nat.mod_lt _ (by omega))
 rw [Nat.div_add_mod'] at h1
 have h2 := nlen_pos h0
 show ((N % 1000000000 : Nat) : Int) :: limI (N / 1000000000) = limI N
 rw [h1, ← h2]
 rfl
set_option maxHeartbeats 1000000 in
theorem spec_bigOf (n : Int) (w : World) (h : -9223372036854775808 ≤ n ∧ n ≤ 9223372036854775807) :
  Calls Tryz.prog 125 #[.int .i64 n] w fun e w' => ∃ v, e = .returned (.agg #[.bool (ofB n), v]) ∧ OwnI w' w.heap.size v (ofL n) ∧ Below w.heap.size w w' := by
 by_cases hmin : n = -9223372036854775808
 ·obtain ⟨N, hN⟩ : ∃ N, N = 9223372036854775808 := ⟨_, rfl⟩
  have HE := of_pos (N := N) (by omega) (by omega)
  have e0 : n = -(N : Int) := by rw [hmin, hN]; rfl
  rw [← e0] at HE
  rw [HE.1, HE.2]
  subst hmin
  clear HE e0 h
  have OL0 : OwnI ((w.alloc (.cells #[.bool false, .slice none 0 0] 32)).alloc (.cells #[.int .i64 854775808, .int .i64 223372036, .int .i64 9] 3)) (w.heap.size + 1) (.slice (some ⟨w.heap.size + 1, 0, none⟩) 3 3) (limI N) := by
   rw [hN, limI_min]
   have := World.ownsRow_lit (base := (w.alloc (.cells #[.bool false, .slice none 0 0] 32)).heap.size) (e := 3) (size := 1) (w.alloc (.cells #[.bool false, .slice none 0 0] 32)) #[.int .i64 854775808, .int .i64 223372036, .int .i64 9] 3 (Nat.le_refl _) (by unfold maxLen; omega) (by simp)
   simp only [World.size_alloc] at this
   exact this
  have OL := Lib.hid OL0
  clear OL0 hN
  go_enter Tryz.func125, Tryz.ntmps125
  go_wp2_with fail
  obtain ⟨W0, hW0⟩ : ∃ x, x = (w.alloc (.cells #[.bool false, .slice none 0 0] 32)).alloc (.cells #[.int .i64 854775808, .int .i64 223372036, .int .i64 9] 3) := ⟨_, rfl⟩
  have B := Lib.hid (show Below w.heap.size w W0 by rw [hW0]; exact (((Below.refl _ _).alloc (Nat.le_refl _) _).alloc (by simp) _))
  have D_r := Lib.hid (bx_at (show Bx W0 _ 32 false (.slice none 0 0) by rw [hW0]; exact (Bx.new _ _ _ _).alloc _) (show w.heap.size = _ by simp))
  have SZ := Lib.hid (show W0.heap.size = w.heap.size + 1 + 1 by rw [hW0]; simp)
  rw [← hW0] at OL
  rw [← hW0]
  clear hW0
  refine (spec_make true _ N _ _ (row_limF (x := N) (by first | exact OL.out.row | (have := OL.out.row; exact this))) (Nat.le_refl _)).mono ?_
  rintro e w1 ⟨v_r0, rfl, o_r0, bw1⟩
  obtain ⟨a_r0, c_r0, rfl⟩ := o_r0.slice
  replace D_r := Lib.hid (D_r.out.below bw1)
  have Z1 := Lib.hid bw1.size
  replace B := Lib.hid (B.out.trans (bw1.mono B.out.size))
  have O_r0 := Lib.hid o_r0
  clear o_r0
  clear bw1
  have c0_r := D_r.out.c0
  have c1_r := D_r.out.c1
  have f0_r := D_r.out.f0
  have f1_r := D_r.out.f1
  go_wp2
  obtain ⟨e1, e2⟩ := big_end (p := w.heap.size) B.out O_r0.out (by have := SZ.out; have := Z1.out; omega) (by have := SZ.out; have := Z1.out; omega) (by omega) (.bool (sgB true (capL N))) (.slice a_r0 (capL N).length c_r0)
  exact bodyPost_ret (v := .agg #[.bool (sgB true (capL N)), .slice a_r0 (capL N).length c_r0]) (by simp [results, Tryz.results125, go_sem, c0_r, c1_r]) rfl ⟨_, rfl, e1, e2⟩
 ·by_cases hneg : n < 0
  ·obtain ⟨N, hN⟩ := Int.eq_ofNat_of_zero_le (show 0 ≤ -n by omega)
   obtain rfl : n = -(N : Int) := by omega
   have hN1 : N ≤ 9223372036854775807 := by omega
   have hN0 : 0 < N := by omega
   have HE := of_pos (N := N) (by omega) hN0
   rw [HE.1, HE.2]
   have hmb : (-(N : Int) == -9223372036854775808) = false := by rw [beq_eq_false_iff_ne]; omega
   have T0 := Lib.hid (fun W => spec_natOf_nat N W hN1)
   clear HE hN hmin hneg
   go_enter Tryz.func125, Tryz.ntmps125
   go_wp2_with fail
   obtain ⟨W0, hW0⟩ : ∃ x, x = w.alloc (.cells #[.bool false, .slice none 0 0] 32) := ⟨_, rfl⟩
   have B := Lib.hid (show Below w.heap.size w W0 by rw [hW0]; exact ((Below.refl _ _).alloc (Nat.le_refl _) _))
   have D_r := Lib.hid (bx_at (show Bx W0 _ 32 false (.slice none 0 0) by rw [hW0]; exact Bx.new _ _ _ _) (show w.heap.size = _ by simp))
   have SZ := Lib.hid (show W0.heap.size = w.heap.size + 1 by rw [hW0]; simp)
   rw [← hW0]
   clear hW0
   refine (T0.out _).mono ?_
   rintro e w1 ⟨v_q, rfl, o_q, bw1⟩
   obtain ⟨a_q, c_q, rfl⟩ := o_q.slice
   replace D_r := Lib.hid (D_r.out.below bw1)
   have Z1 := Lib.hid bw1.size
   replace B := Lib.hid (B.out.trans (bw1.mono B.out.size))
   have O_q := Lib.hid o_q
   clear o_q
   clear bw1
   go_wp2_with fail
   refine (spec_make true _ N _ _ (row_limF O_q.out.row) (Nat.le_refl _)).mono ?_
   rintro e w2 ⟨v_r0, rfl, o_r0, bw2⟩
   obtain ⟨a_r0, c_r0, rfl⟩ := o_r0.slice
   replace O_q := Lib.hid (O_q.out.below bw2)
   replace D_r := Lib.hid (D_r.out.below bw2)
   have Z2 := Lib.hid bw2.size
   replace B := Lib.hid (B.out.trans (bw2.mono B.out.size))
   have O_r0 := Lib.hid o_r0
   clear o_r0
   clear bw2
   have c0_r := D_r.out.c0
   have c1_r := D_r.out.c1
   have f0_r := D_r.out.f0
   have f1_r := D_r.out.f1
   go_wp2
   obtain ⟨e1, e2⟩ := big_end (p := w.heap.size) B.out O_r0.out (by have := SZ.out; have := Z1.out; have := Z2.out; omega) (by have := SZ.out; have := Z1.out; have := Z2.out; omega) (by omega) (.bool (sgB true (capL N))) (.slice a_r0 (capL N).length c_r0)
   exact bodyPost_ret (v := .agg #[.bool (sgB true (capL N)), .slice a_r0 (capL N).length c_r0]) (by simp [results, Tryz.results125, go_sem, c0_r, c1_r]) rfl ⟨_, rfl, e1, e2⟩
  ·obtain ⟨N, rfl⟩ := Int.eq_ofNat_of_zero_le (show 0 ≤ n by omega)
   have hN1 : N ≤ 9223372036854775807 := by omega
   have HE := of_nat (N := N) hN1
   rw [HE.1, HE.2]
   have hmb : ((N : Int) == -9223372036854775808) = false := by rw [beq_eq_false_iff_ne]; omega
   have T0 := Lib.hid (fun W => spec_natOf_nat N W hN1)
   clear HE hmin hneg
   go_enter Tryz.func125, Tryz.ntmps125
   go_wp2_with fail
   obtain ⟨W0, hW0⟩ : ∃ x, x = w.alloc (.cells #[.bool false, .slice none 0 0] 32) := ⟨_, rfl⟩
   have B := Lib.hid (show Below w.heap.size w W0 by rw [hW0]; exact ((Below.refl _ _).alloc (Nat.le_refl _) _))
   have D_r := Lib.hid (bx_at (show Bx W0 _ 32 false (.slice none 0 0) by rw [hW0]; exact Bx.new _ _ _ _) (show w.heap.size = _ by simp))
   have SZ := Lib.hid (show W0.heap.size = w.heap.size + 1 by rw [hW0]; simp)
   rw [← hW0]
   clear hW0
   refine (T0.out _).mono ?_
   rintro e w1 ⟨v_q, rfl, o_q, bw1⟩
   obtain ⟨a_q, c_q, rfl⟩ := o_q.slice
   replace D_r := Lib.hid (D_r.out.below bw1)
   have Z1 := Lib.hid bw1.size
   replace B := Lib.hid (B.out.trans (bw1.mono B.out.size))
   have O_q := Lib.hid o_q
   clear o_q
   clear bw1
   go_wp2_with fail
   refine (spec_make false _ N _ _ (row_limF O_q.out.row) (Nat.le_refl _)).mono ?_
   rintro e w2 ⟨v_r0, rfl, o_r0, bw2⟩
   obtain ⟨a_r0, c_r0, rfl⟩ := o_r0.slice
   replace O_q := Lib.hid (O_q.out.below bw2)
   replace D_r := Lib.hid (D_r.out.below bw2)
   have Z2 := Lib.hid bw2.size
   replace B := Lib.hid (B.out.trans (bw2.mono B.out.size))
   have O_r0 := Lib.hid o_r0
   clear o_r0
   clear bw2
   have c0_r := D_r.out.c0
   have c1_r := D_r.out.c1
   have f0_r := D_r.out.f0
   have f1_r := D_r.out.f1
   go_wp2
   obtain ⟨e1, e2⟩ := big_end (p := w.heap.size) B.out O_r0.out (by have := SZ.out; have := Z1.out; have := Z2.out; omega) (by have := SZ.out; have := Z1.out; have := Z2.out; omega) (by omega) (.bool (sgB false (capL N))) (.slice a_r0 (capL N).length c_r0)
   exact bodyPost_ret (v := .agg #[.bool (sgB false (capL N)), .slice a_r0 (capL N).length c_r0]) (by simp [results, Tryz.results125, go_sem, c0_r, c1_r]) rfl ⟨_, rfl, e1, e2⟩
set_option maxHeartbeats 1000000 in
theorem impl_bigOf (n : Int) (w : World) (h : -9223372036854775808 ≤ n ∧ n ≤ 9223372036854775807) :
  Calls Tryz.prog 104 #[.int .i64 n] w fun e w' => ∃ v, e = .returned (.agg #[.bool (ofB n), v]) ∧ OwnI w' w.heap.size v (ofL n) ∧ Below w.heap.size w w' := by
 by_cases hneg : n < 0
 rotate_left
 ·obtain ⟨N, rfl⟩ := Int.eq_ofNat_of_zero_le (show 0 ≤ n by omega)
  have hN1 : N ≤ 9223372036854775807 := by omega
  have HE := of_nat (N := N) hN1
  rw [HE.1, HE.2]
  have T0 := Lib.hid (fun W => impl_limbsOf_nat N W hN1)
  clear HE hneg
  go_enter Tryz.func104, Tryz.ntmps104
  go_wp2_with fail
  obtain ⟨W0, hW0⟩ : ∃ x, x = w.alloc (.cells #[.bool false, .slice none 0 0] 32) := ⟨_, rfl⟩
  have B := Lib.hid (show Below w.heap.size w W0 by rw [hW0]; exact ((Below.refl _ _).alloc (Nat.le_refl _) _))
  have D_r := Lib.hid (bx_at (show Bx W0 _ 32 false (.slice none 0 0) by rw [hW0]; exact Bx.new _ _ _ _) (show w.heap.size = _ by simp))
  have SZ := Lib.hid (show W0.heap.size = w.heap.size + 1 by rw [hW0]; simp)
  rw [← hW0]
  clear hW0
  refine (T0.out _).mono ?_
  rintro e w1 ⟨v_q, rfl, o_q, bw1⟩
  obtain ⟨a_q, c_q, rfl⟩ := o_q.slice
  replace D_r := Lib.hid (D_r.out.below bw1)
  have Z1 := Lib.hid bw1.size
  replace B := Lib.hid (B.out.trans (bw1.mono B.out.size))
  have O_q := Lib.hid o_q
  clear o_q
  clear bw1
  go_wp2_with fail
  refine (impl_withSign false _ N _ O_q.out.row).mono ?_
  rintro e w2 ⟨v_r0, rfl, o_r0, bw2⟩
  obtain ⟨a_r0, c_r0, rfl⟩ := o_r0.slice
  replace O_q := Lib.hid (O_q.out.below bw2)
  replace D_r := Lib.hid (D_r.out.below bw2)
  have Z2 := Lib.hid bw2.size
  replace B := Lib.hid (B.out.trans (bw2.mono B.out.size))
  have O_r0 := Lib.hid o_r0
  clear o_r0
  clear bw2
  have c0_r := D_r.out.c0
  have c1_r := D_r.out.c1
  have f0_r := D_r.out.f0
  have f1_r := D_r.out.f1
  go_wp2
  obtain ⟨e1, e2⟩ := big_end (p := w.heap.size) B.out O_r0.out (by have := SZ.out; have := Z1.out; have := Z2.out; omega) (by have := SZ.out; have := Z1.out; have := Z2.out; omega) (by omega) (.bool (sgB false (capL N))) (.slice a_r0 (capL N).length c_r0)
  exact bodyPost_ret (v := .agg #[.bool (sgB false (capL N)), .slice a_r0 (capL N).length c_r0]) (by simp [results, Tryz.results104, go_sem, c0_r, c1_r]) rfl ⟨_, rfl, e1, e2⟩
 ·obtain ⟨N, hN⟩ := Int.eq_ofNat_of_zero_le (show 0 ≤ -n by omega)
  obtain rfl : n = -(N : Int) := by omega
  have hN1 : N ≤ 9223372036854775808 := by omega
  have hN0 : 0 < N := by omega
  have HE := of_pos (N := N) hN1 hN0
  rw [HE.1, HE.2]
  have hr : (-(N : Int)).tmod 1000000000 = -((N % 1000000000 : Nat) : Int) := by rw [Int.neg_tmod]; rfl
  have hq : (-(N : Int)).tdiv 1000000000 = -((N / 1000000000 : Nat) : Int) := by rw [Int.neg_tdiv]; rfl
  have HC := Lib.hid (of_cons hN0)
  obtain ⟨d, hd⟩ : ∃ d, N % 1000000000 = d := ⟨_, rfl⟩
  obtain ⟨q, hqq⟩ : ∃ q, N / 1000000000 = q := ⟨_, rfl⟩
  have hd1 : d < 1000000000 := by omega
  have hq1 : q ≤ 9223372036 := by omega
  rw [hd] at hr HC
  rw [hqq] at hq HC
  have T0 := Lib.hid (fun W => impl_limbsOf_nat q W (by omega))
  have HQL : Hid ((limI q).length ≤ 1000) := by
   unfold Hid
   rw [limI_length, nlen_le_iff]
   refine Nat.lt_of_lt_of_le (?_ : _ < pw 3) (pw_mono (by omega))
   simp only [pw]; omega
  clear HE hd hqq hN
  go_enter Tryz.func104, Tryz.ntmps104
  go_wp2_with fail
  have OM0 := OwnI.lit1 (w.alloc (.cells #[.bool false, .slice none 0 0] 32)) (w.heap.size + 1) d (by simp)
  simp only [World.size_alloc] at OM0
  obtain ⟨W0, hW0⟩ : ∃ x, x = (w.alloc (.cells #[.bool false, .slice none 0 0] 32)).alloc (.cells #[.int .i64 d] 3) := ⟨_, rfl⟩
  have B := Lib.hid (show Below w.heap.size w W0 by rw [hW0]; exact (((Below.refl _ _).alloc (Nat.le_refl _) _).alloc (by simp) _))
  have D_r := Lib.hid (bx_at (show Bx W0 _ 32 false (.slice none 0 0) by rw [hW0]; exact (Bx.new _ _ _ _).alloc _) (show w.heap.size = _ by simp))
  have SZ := Lib.hid (show W0.heap.size = w.heap.size + 1 + 1 by rw [hW0]; simp)
  rw [← hW0] at OM0
  rw [← hW0]
  clear hW0
  have O_m := Lib.hid OM0
  clear OM0
  refine (T0.out _).mono ?_
  rintro e w1 ⟨v_q, rfl, o_q, bw1⟩
  obtain ⟨a_q, c_q, rfl⟩ := o_q.slice
  replace O_m := Lib.hid (O_m.out.below bw1)
  replace D_r := Lib.hid (D_r.out.below bw1)
  have Z1 := Lib.hid bw1.size
  replace B := Lib.hid (B.out.trans (bw1.mono B.out.size))
  have O_q := Lib.hid o_q
  clear o_q
  clear bw1
  have hln : [(d : Int)].length + (limI q).length ≤ 1099511627776 := by have := HQL.out; simp; omega
  have hBs : w.heap.size + 1 ≤ w1.heap.size := by have := SZ.out; have := Z1.out; omega
  go_wp2_with (at_builtin; refine append_ints rfl _ _ 120 Tryz.underlying120 rfl (w.heap.size + 1) _ _ [(d : Int)] (limI q) rfl O_m.out rfl O_q.out.row hln hBs ?_; intro v2 w2 h1 hg1)
  rw [HC.out] at h1
  replace D_r := Lib.hid (D_r.out.marked O_m.out (by decide) hg1)
  replace B := Lib.hid (Below.grown B.out hg1 B.out.size (fun g hg => by have := (O_m.out.lt g hg).1; omega))
  have Z2 := Lib.hid (grownBy_size hg1)
  have O_v := Lib.hid h1
  obtain ⟨a2, c2, rfl⟩ := h1.slice
  clear h1 hg1 O_m O_q
  refine (impl_withSign true _ N _ O_v.out.row).mono ?_
  rintro e w3 ⟨v_r0, rfl, o_r0, bw3⟩
  obtain ⟨a_r0, c_r0, rfl⟩ := o_r0.slice
  replace O_v := Lib.hid (O_v.out.below bw3)
  replace D_r := Lib.hid (D_r.out.below bw3)
  have Z3 := Lib.hid bw3.size
  replace B := Lib.hid (B.out.trans (bw3.mono B.out.size))
  have O_r0 := Lib.hid o_r0
  clear o_r0
  clear bw3
  have c0_r := D_r.out.c0
  have c1_r := D_r.out.c1
  have f0_r := D_r.out.f0
  have f1_r := D_r.out.f1
  go_wp2
  obtain ⟨e1, e2⟩ := big_end (p := w.heap.size) B.out O_r0.out (by have := SZ.out; have := Z1.out; have := Z2.out; have := Z3.out; omega) (by have := SZ.out; have := Z1.out; have := Z2.out; have := Z3.out; omega) (by omega) (.bool (sgB true (capL N))) (.slice a_r0 (capL N).length c_r0)
  exact bodyPost_ret (v := .agg #[.bool (sgB true (capL N)), .slice a_r0 (capL N).length c_r0]) (by simp [results, Tryz.results104, go_sem, c0_r, c1_r]) rfl ⟨_, rfl, e1, e2⟩
end Go.Proofs.YtlepgkkpopjgoaaGreat
