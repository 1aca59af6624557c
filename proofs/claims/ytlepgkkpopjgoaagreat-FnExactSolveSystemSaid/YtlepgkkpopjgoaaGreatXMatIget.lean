/- MatSeq MatIok MatIget. -/
import Derived.Test.YtlepgkkpopjgoaaGreatXMatId
import Derived.Test.YtlepgkkpopjgoaaGreatXSums
import Derived.BigQuiet
import Derived.Test.YtlepgkkpopjgoaaGreatXVecZero
namespace Go.Proofs.YtlepgkkpopjgoaaGreat
open Go.RowKit Go.WideShapes Go.ChangeShapes Go.Shelf
set_option linter.unusedVariables false
set_option linter.unusedSimpArgs false
attribute [local go_sem] Oper.semAt_some
theorem impl_isSize (n : Int) (w : World) :
  Calls Tryz.prog 67 #[.int .i64 n] w fun e w' => e = .returned (.bool (dimB n)) ∧ w' = w := by
 by_cases h : 0 ≤ n
 ·go_enter Tryz.func67, Tryz.ntmps67
  go_wp2
  go_ret
  exact ⟨ret_bool (by unfold dimB; simp [h]), rfl⟩
 ·go_enter Tryz.func67, Tryz.ntmps67
  go_wp2
  go_ret
  exact ⟨ret_bool (by unfold dimB; rw [decide_eq_false (show ¬ 0 ≤ n by omega)]; rfl), rfl⟩
def rowV (a : Option Addr) (C i : Nat) : Value := if C = 0 then .slice a 0 0 else .slice (a.map (·.add (i * C * 3))) C C
set_option maxRecDepth 100000 in
set_option maxHeartbeats 1000000 in
theorem impl_row (r : Int) (C i n : Nat) (a : Option Addr) (cap : Nat) (w : World) (hi : i * C + C ≤ n) (hn : n ≤ 576) (hC : C ≤ 24) (hi2 : i ≤ 24) (hc : n ≤ cap) (hcm : cap ≤ 9223372036854775807) :
  Calls Tryz.prog 75 #[.agg #[.int .i64 r, .int .i64 (C : Int), .slice a n cap], .int .i64 (i : Int)] w fun e w' => e = .returned (rowV a C i) ∧ Below w.heap.size w w' := by
 obtain ⟨l, hl⟩ : ∃ l, i * C = l := ⟨_, rfl⟩
 have p1 : (i : Int) * (C : Int) = (l : Int) := by rw [← hl, Int.natCast_mul]
 have p2 : ((i : Int) + 1) * (C : Int) = ((l + C : Nat) : Int) := by rw [Int.add_mul, p1, Int.one_mul, Int.natCast_add]
 rw [hl] at hi
 have BA := Lib.hid ((Below.refl w.heap.size w).alloc (Nat.le_refl _) (.cells #[.int .i64 r, .int .i64 (C : Int), .slice a n cap] 25))
 have D := Lib.hid (B3.new w 25 (.int .i64 r) (.int .i64 (C : Int)) (.slice a n cap))
 obtain ⟨x, hx⟩ : ∃ x, x = rowV a C i := ⟨_, rfl⟩
 rw [← hx]
 have HX := Lib.hid hx
 clear hx
 by_cases hC0 : C = 0
 ·subst hC0
  obtain rfl : x = .slice a 0 0 := HX.out.trans (by unfold rowV; rfl)
  obtain rfl : l = 0 := by omega
  have d1 := D.out.c1
  have d2 := D.out.c2
  go_enter Tryz.func75, Tryz.ntmps75
  go_wp2_with fail
  go_quiet (fail)
  all_goals go_wp2
  all_goals go_ret
  exact ⟨rfl, below_drewN BA.out _⟩
 ·obtain rfl : x = .slice (a.map (·.add (l * 3))) C C := HX.out.trans (by unfold rowV; rw [if_neg hC0, hl])
  have d1 := D.out.c1
  have d2 := D.out.c2
  go_enter Tryz.func75, Tryz.ntmps75
  go_wp2_with fail
  go_quiet (fail)
  all_goals go_wp2
  all_goals go_ret
  have e9 : l + C - l = C := by omega
  exact ⟨by simp only [e9]; rfl, below_drewN BA.out _⟩
abbrev RowA (R : Nat) := {k : Nat // k < R}
def rix {R : Nat} (x : RowA R) : Nat := x.1
def KpM (Bs : Nat) (W W' : World) : Prop := W'.heap[Bs]? = W.heap[Bs]?
theorem KpM.trans {Bs : Nat} {A B C : World} (h : KpM Bs A B) (k : KpM Bs B C) : KpM Bs A C := Eq.trans k h
theorem KpM.putObj {Bs : Nat} {w : World} (hB : Bs < w.heap.size) (W : World) (l : Nat) (o o' : Obj) (hl : w.heap.size ≤ l) (h : W.heap[l]? = some o) (hc : o.isCells = false) (hw : o.isWalk = false) : KpM Bs W (W.putObj l o') :=
 World.putObj_heap_other (by omega)
theorem grown_of_below {W W' : World} (h : Below W.heap.size W W') (row : Option Nat) : W.grownBy W' row := ⟨h.os, h.tape, h.output, h.size, fun k hk _ => h.block k hk⟩
theorem rows_in (F : Fence) (n : Nat) (h5 : F.fn 70) (hro : F.round = none) (x y z : Value) (w : World) :
  CallsIn F n Tryz.prog 70 #[.agg #[x, y, z]] w fun e w' => e = .returned (.func (.func 112) #[] #[.pointer (some ⟨w.heap.size, 0, none⟩)]) ∧ w' = w.alloc (.cells #[x, y, z] 25) := by
 refine callsIn_of_wp Tryz.func70 rfl h5 ?_ hro
 simp only [Tryz.ntmps70, List.size_toArray, List.length_cons, List.length_nil, Nat.reduceAdd, Nat.reduceSub, Array.replicate_succ, Array.replicate_zero, List.push_toArray, List.append_toArray, List.nil_append, List.cons_append]
 gi_wp2
 go_ret
 exact ⟨rfl, rfl⟩
set_option maxRecDepth 100000 in
set_option maxHeartbeats 2000000 in
theorem rows1_in (l Bs R C n m cap : Nat) (hm : 1 ≤ m) (a : Option Addr) (hR : R ≤ 24) (hC : C ≤ 24) (hn : n = R * C) (hnc : n ≤ cap) (hcm : cap ≤ 9223372036854775807) (J Jx : List (RowA R) → World → Prop) (h9 : Nat)
  (hJ : AbidesFrom h9 J)
  (hY : ∀ pre x W, J pre W → pre.length < R → YieldAt Fence.wide (m - 1) Tryz.prog l #[.int .i64 (x.1 : Int), rowV a C x.1] W fun e W' =>
   (e = .returned (.bool true) ∧ J (pre ++ [x]) W' ∧ KpM Bs W W') ∨ (e = .returned (.bool false) ∧ Jx (pre ++ [x]) W'))
  (W : World) (hBs : B3 W Bs 25 (.int .i64 (R : Int)) (.int .i64 (C : Int)) (.slice a n cap)) (h0 : J [] W) :
  CallsIn Fence.wide m Tryz.prog 112 #[.func (.yield l) #[] #[], .pointer (some ⟨Bs, 0, none⟩)] W fun e W' => (∃ v, e = .returned v) ∧
   ((∃ ys, ys.map rix = List.range R ∧ J ys W') ∨ (∃ pre, (∃ k, k ≤ R ∧ pre.map rix = List.range k) ∧ Jx pre W')) := by
 have HBS := Lib.hid hBs
 have b0 := hBs.c0
 refine callsIn_of_wp Tryz.func112 rfl trivial ?_ rfl
 simp only [Tryz.ntmps112, List.size_toArray, List.length_cons, List.length_nil, Nat.reduceAdd, Nat.reduceSub, Array.replicate_succ, Array.replicate_zero, List.push_toArray, List.append_toArray, List.nil_append, List.cons_append]
 gi_wp2
 clear b0 hBs
 gi_loopw [6] (fun i wr => ∃ (k : Nat) (pre : List (RowA R)), k ≤ R ∧ i = .int .i64 (k : Int) ∧ Hid (pre.map rix = List.range k) ∧ Hid (J pre wr) ∧ Hid (B3 wr Bs 25 (.int .i64 (R : Int)) (.int .i64 (C : Int)) (.slice a n cap)))
  (fun i _ => R - (intOf i).toNat)
 case atStart => exact ⟨0, [], Nat.zero_le _, rfl, rfl, h0, HBS⟩
 case round =>
  clear HBS h0
  obtain ⟨k, pre, hk, rfl, HP, HJ, HB⟩ := hrel
  by_cases hlt : k < R
  ·have hpl : pre.length < R := by have := congrArg List.length HP.out; rw [List.length_map, List.length_range] at this; omega
   have c0 := HB.out.c0
   have c1 := HB.out.c1
   have c2 := HB.out.c2
   have hrow : Hid (∀ W : World, CallsIn Fence.wide 0 Tryz.prog 75 #[.agg #[.int .i64 (R : Int), .int .i64 (C : Int), .slice a n cap], .int .i64 (k : Int)] W fun e w' => e = .returned (rowV a C k) ∧ Below W.heap.size W w') :=
    fun W => callsIn_wide.2 (impl_row (R : Int) C k n a cap W (by rw [hn]; exact row_in hlt) (by rw [hn]; have := Nat.mul_le_mul hR hC; omega) hC (by omega) hnc hcm)
   have HYK := Lib.hid (fun W1 (hW : Below wr.heap.size wr W1) => hY pre ⟨k, hlt⟩ W1 (hJ pre wr W1 none HJ.out (grown_of_below hW none) (fun r e => by cases e)) hpl)
   clear hn hY
   gi_wp2_with (refine ⟨trivial, ?_⟩; gi_at_call 75; refine (callsIn_wide.2 (callsIn_wide.1 (hrow.out _))).mono ?_; rintro e w2 ⟨rfl, bw⟩; obtain ⟨fn, tmps, assign, body, hy, hRR⟩ := HYK.out w2 bw; dsimp only at hy; have HB2 := Lib.hid (HB.out.below bw); have HYY := Lib.hid hRR; clear hRR)
   refine HYY.out.mono ?_
   rintro e W3 (⟨rfl, hJ3, hk3⟩ | ⟨rfl, hJx3⟩)
   ·have HJ3 := Lib.hid hJ3
    have HB3 := Lib.hid (show B3 W3 Bs 25 (.int .i64 (R : Int)) (.int .i64 (C : Int)) (.slice a n cap) from Eq.trans hk3 HB2.out)
    have HD : Hid ((pre ++ [(⟨k, hlt⟩ : RowA R)]).map rix = List.range (k + 1)) := by
     unfold Hid
     rw [List.map_append, HP.out, List.range_succ]; rfl
    clear hJ3 hk3
    gi_wp2
    go_roundw
    case rel => exact ⟨k + 1, _, by omega, by go_num, HD, HJ3, HB3⟩
    case measure => simp [intOf]; omega
   ·have HJ3 := Lib.hid hJx3
    have HD : Hid ((pre ++ [(⟨k, hlt⟩ : RowA R)]).map rix = List.range (k + 1)) := by
     unfold Hid
     rw [List.map_append, HP.out, List.range_succ]; rfl
    clear hJx3
    gi_wp2
    refine bodyPost_ret (results_none rfl _ _ _) rfl ?_
    exact ⟨⟨_, rfl⟩, .inr ⟨_, ⟨k + 1, by omega, HD.out⟩, HJ3.out⟩⟩
  ·obtain rfl : k = R := by omega
   gi_wp2
   go_end0
   exact ⟨⟨_, rfl⟩, .inl ⟨_, HP.out, HJ.out⟩⟩
theorem rows_stops (Bs R C n m cap : Nat) (hm : 1 ≤ m) (a : Option Addr) (hR : R ≤ 24) (hC : C ≤ 24) (hn : n = R * C) (hnc : n ≤ cap) (hcm : cap ≤ 9223372036854775807) (w : World)
  (hc : B3 w Bs 25 (.int .i64 (R : Int)) (.int .i64 (C : Int)) (.slice a n cap)) :
  SeqStopsK Fence.wide m Tryz.prog 112 #[.pointer (some ⟨Bs, 0, none⟩)] (fun x : RowA R => #[Value.int .i64 (x.1 : Int), rowV a C x.1]) (KpM Bs) (fun ys => ys.map rix = List.range R)
   (fun pre => ∃ k, k ≤ R ∧ pre.map rix = List.range k) R w := fun l J Jx W hW hJ _ hY h0 =>
 rows1_in l Bs R C n m cap hm a hR hC hn hnc hcm J Jx _ hJ hY W (hc.below hW) h0
end Go.Proofs.YtlepgkkpopjgoaaGreat
namespace Go.Proofs.YtlepgkkpopjgoaaGreat
open Go.RowKit Go.WideShapes Go.ChangeShapes Go.Shelf
set_option linter.unusedVariables false
set_option linter.unusedSimpArgs false
attribute [local go_sem] Oper.semAt_some
def rowX (L : List Fr) (C i : Nat) : List Fr := (L.drop (i * C)).take C
theorem rowX_len {L : List Fr} {R C n i : Nat} (hl : L.length = n) (hn : n = R * C) (hi : i < R) : (rowX L C i).length = C := by
 have := row_in (C := C) hi
 unfold rowX; rw [List.length_take, List.length_drop]; omega
theorem rowX_at {L : List Fr} {R C n i k : Nat} (hl : L.length = n) (hn : n = R * C) (hi : i < R) (hk : k < C) (h1 : k < (rowX L C i).length) (h2 : i * C + k < L.length) : (rowX L C i)[k]'h1 = L[i * C + k]'h2 := by
 simp [rowX]
theorem rats_row {w : World} {a : Option Addr} {n cap R C i : Nat} {L : List Fr} (h : RatsAt w (.slice a n cap) L) (hl : L.length = n) (hn : n = R * C) (hi : i < R) (hC : C ≤ 24) : RatsAt w (rowV a C i) (rowX L C i) := by
 have hin := row_in (C := C) hi
 have hlen := rowX_len hl hn hi
 obtain ⟨a0, c0, e, h1, h2, h3⟩ := h
 injection e with e1 e2 e3
 subst e1 e3
 unfold maxLen at h2
 by_cases hC0 : C = 0
 ·subst hC0
  exact ⟨a, 0, by unfold rowV; rw [if_pos rfl, hlen], by omega, by unfold maxLen; omega, fun k hk => by omega⟩
 ·refine ⟨a.map (·.add (i * C * 3)), C, by unfold rowV; rw [if_neg hC0, hlen], by omega, by unfold maxLen; omega, fun k hk => ?_⟩
  rw [hlen] at hk
  obtain ⟨b, o, x, y, rfl, k0, k1, k2, hr⟩ := h3 (i * C + k) (by omega)
  have hg : (rowX L C i)[k]'(by rw [hlen]; exact hk) = L[i * C + k]'(by omega) := rowX_at hl hn hi hk _ _
  refine ⟨b, o + i * C * 3, x, y, by simp [Addr.add], ?_, ?_, ?_, ?_⟩
  ·rw [hg, show o + i * C * 3 + k * 3 = o + (i * C + k) * 3 by omega]; exact k0
  ·rw [show o + i * C * 3 + k * 3 = o + (i * C + k) * 3 by omega]; exact k1
  ·rw [show o + i * C * 3 + k * 3 = o + (i * C + k) * 3 by omega]; exact k2
  ·rw [hg]; exact hr
theorem rows_all {ok : Fr → Bool} {L : List Fr} {R C n : Nat} (hl : L.length = n) (hn : n = R * C) (h : ∀ i, i < R → (rowX L C i).all ok = true) : L.all ok = true := by
 rw [List.all_eq_true]
 intro f hf
 obtain ⟨j, hj, rfl⟩ := List.getElem_of_mem hf
 have hC : 0 < C := by
  rcases Nat.eq_zero_or_pos C with h0 | h0
  ·subst h0; omega
  ·exact h0
 have hi : j / C < R := by rw [Nat.div_lt_iff_lt_mul hC]; omega
 have hk : j % C < C := Nat.mod_lt _ hC
 have hlen := rowX_len hl hn hi
 have hd := Nat.div_add_mod' j C
 have h1 := List.all_eq_true.1 (h (j / C) hi) _ (List.getElem_mem (show j % C < (rowX L C (j / C)).length by omega))
 rw [rowX_at hl hn hi hk (by omega) (by omega)] at h1
 simpa only [hd] using h1
theorem all_rowX {ok : Fr → Bool} {L : List Fr} (h : L.all ok = true) (C i : Nat) : (rowX L C i).all ok = true := by
 rw [List.all_eq_true] at h ⊢
 exact fun f hf => h f (List.mem_of_mem_drop (List.mem_of_mem_take hf))
def rowsB {R : Nat} (ok : Fr → Bool) (L : List Fr) (C : Nat) (pre : List (RowA R)) : Prop := ∀ x ∈ pre, (rowX L C (rix x)).all ok = true
theorem rowsB_end {R : Nat} {ok : Fr → Bool} {L : List Fr} {C n : Nat} {ys : List (RowA R)} (hl : L.length = n) (hn : n = R * C) (hy : ys.map rix = List.range R) (h : rowsB ok L C ys) : L.all ok = true :=
 rows_all hl hn (fun i hi => by
  have h1 : i ∈ ys.map rix := by rw [hy]; exact List.mem_range.2 hi
  obtain ⟨x, hx, rfl⟩ := List.mem_map.1 h1
  exact h x hx)
set_option maxRecDepth 100000 in
set_option maxHeartbeats 2000000 in
theorem impl_matrixOkH (ok : Bool → List Int → List Int → Bool)
  (HV : ∀ v L w, RatsAt w v L → Calls Tryz.prog 64 #[v] w fun e w' => e = .returned (.bool (vecB ok L)) ∧ Below w.heap.size w w')
  (r c : Int) (v : Value) (L : List Fr) (w : World) (h : RatsAt w v L) :
  Calls Tryz.prog 57 #[.agg #[.int .i64 r, .int .i64 c, v]] w fun e w' => e = .returned (.bool (matB ok r c L)) ∧ Below w.heap.size w w' := by
 obtain ⟨a, cap, rfl, hc, hm, hr⟩ := h
 have HR := Lib.hid (show RatsAt w (.slice a L.length cap) L from ⟨a, cap, rfl, hc, hm, hr⟩)
 unfold maxLen at hm
 clear hr
 obtain ⟨n, hnn⟩ : ∃ n, L.length = n := ⟨_, rfl⟩
 rw [hnn] at hc HR ⊢
 have HN := Lib.hid hnn
 clear hnn
 obtain ⟨x, hx⟩ : ∃ x, x = matB ok r c L := ⟨_, rfl⟩
 rw [← hx]
 have HX := Lib.hid hx
 clear hx
 obtain ⟨W0, hW0⟩ : ∃ x, x = (w.alloc (.cells #[.int .i64 r, .int .i64 c, .slice a n cap] 25)).alloc (.cells #[.bool false] 4) := ⟨_, rfl⟩
 have D := Lib.hid (show B3 W0 w.heap.size 25 (.int .i64 r) (.int .i64 c) (.slice a n cap) by rw [hW0]; exact (B3.new _ _ _ _ _).alloc _)
 have Z := Lib.hid (show Boxed W0 (w.heap.size + 1) 4 (.bool false) by rw [hW0]; have := Boxed.new (w.alloc (.cells #[.int .i64 r, .int .i64 c, .slice a n cap] 25)) 4 (.bool false); rw [World.size_alloc] at this; exact this)
 have B0 := Lib.hid (show Below w.heap.size w W0 by rw [hW0]; exact ((Below.refl _ _).alloc (Nat.le_refl _) _).alloc (by simp) _)
 have BS := Lib.hid (show W0.heap.size = w.heap.size + 1 + 1 by rw [hW0]; simp)
 have HW := Lib.hid hW0.symm
 clear hW0
 have z0 := Z.out.cell
 have z1 := Z.out.frozen
 have d0 := D.out.c0
 have d1 := D.out.c1
 have d2 := D.out.c2
 have e9 := (Z.out.set (.bool false)).cell
 have B9 := Lib.hid (B0.out.setCell (p := ⟨w.heap.size + 1, 0, none⟩) (by simp) (.bool false))
 cases q0 : dimB r with
 | false =>
  obtain rfl : x = false := HX.out.trans (by unfold matB; rw [q0]; rfl)
  refine (callsIn_wide (n := 3)).1 ?_
  refine callsIn_of_wp_marks Tryz.func57 rfl trivial ?_ rfl
  simp only [Tryz.ntmps57, List.size_toArray, List.length_cons, List.length_nil, Nat.reduceAdd, Nat.reduceSub, Array.replicate_succ, Array.replicate_zero, List.push_toArray, List.append_toArray, List.nil_append, List.cons_append]
  refine wpIn_wide.2 ?_
  go_wp2_with (rw [HW.out])
  refine (impl_isSize _ _).mono ?_
  rw [q0]
  rintro e w' ⟨rfl, h9⟩
  replace h9 := h9.symm
  subst h9
  go_wp2_with fail
  refine ⟨.bool false, ?_, rfl, B9.out⟩
  simp [results, Tryz.f57, go_sem, e9]
 | true =>
 cases q1 : dimB c with
 | false =>
  obtain rfl : x = false := HX.out.trans (by unfold matB; rw [q1]; simp)
  refine (callsIn_wide (n := 3)).1 ?_
  refine callsIn_of_wp_marks Tryz.func57 rfl trivial ?_ rfl
  simp only [Tryz.ntmps57, List.size_toArray, List.length_cons, List.length_nil, Nat.reduceAdd, Nat.reduceSub, Array.replicate_succ, Array.replicate_zero, List.push_toArray, List.append_toArray, List.nil_append, List.cons_append]
  refine wpIn_wide.2 ?_
  go_wp2_with (rw [HW.out])
  refine (impl_isSize _ _).mono ?_
  rw [q0]
  rintro e w' ⟨rfl, h9⟩
  replace h9 := h9.symm
  subst h9
  go_wp2_with fail
  refine (impl_isSize _ _).mono ?_
  rw [q1]
  rintro e w' ⟨rfl, h9⟩
  replace h9 := h9.symm
  subst h9
  go_wp2_with fail
  refine ⟨.bool false, ?_, rfl, B9.out⟩
  simp [results, Tryz.f57, go_sem, e9]
 | true =>
 obtain ⟨hm0, hm1⟩ := dim_mul q0 q1
 by_cases hl : (n : Int) = r * c
 rotate_left
 ·obtain rfl : x = false := HX.out.trans (by unfold matB; rw [decide_eq_false (by rw [HN.out]; exact hl)]; simp)
  have hne : ((n : Int) != r * c) = true := by rw [bne_iff_ne]; exact hl
  refine (callsIn_wide (n := 3)).1 ?_
  refine callsIn_of_wp_marks Tryz.func57 rfl trivial ?_ rfl
  simp only [Tryz.ntmps57, List.size_toArray, List.length_cons, List.length_nil, Nat.reduceAdd, Nat.reduceSub, Array.replicate_succ, Array.replicate_zero, List.push_toArray, List.append_toArray, List.nil_append, List.cons_append]
  refine wpIn_wide.2 ?_
  go_wp2_with (rw [HW.out])
  refine (impl_isSize _ _).mono ?_
  rw [q0]
  rintro e w' ⟨rfl, h9⟩
  replace h9 := h9.symm
  subst h9
  go_wp2_with fail
  refine (impl_isSize _ _).mono ?_
  rw [q1]
  rintro e w' ⟨rfl, h9⟩
  replace h9 := h9.symm
  subst h9
  go_wp2_with fail
  refine ⟨.bool false, ?_, rfl, B9.out⟩
  simp [results, Tryz.f57, go_sem, e9]
 have HE := Lib.hid (show matB ok r c L = L.all (fun f => ok f.neg f.mag f.den) by unfold matB; rw [q0, q1, decide_eq_true (by rw [HN.out]; exact hl)]; rfl)
 obtain ⟨u1, u2⟩ := dimB_iff.1 q0
 obtain ⟨u3, u4⟩ := dimB_iff.1 q1
 obtain ⟨R, rfl⟩ : ∃ a : Nat, r = a := ⟨r.toNat, by omega⟩
 obtain ⟨C, rfl⟩ : ∃ a : Nat, c = a := ⟨c.toNat, by omega⟩
 have hRC : n = R * C := by rw [← Int.natCast_mul] at hl; omega
 have hne : ((n : Int) != (R : Int) * (C : Int)) = false := by unfold bne; rw [beq_iff_eq.2 hl]; rfl
 have HRC := Lib.hid hRC
 have hR : R ≤ 24 := by omega
 have hC : C ≤ 24 := by omega
 clear hl hRC u1 u2 u3 u4
 refine (callsIn_wide (n := 3)).1 ?_
 refine callsIn_of_wp_marks Tryz.func57 rfl trivial ?_ rfl
 simp only [Tryz.ntmps57, List.size_toArray, List.length_cons, List.length_nil, Nat.reduceAdd, Nat.reduceSub, Array.replicate_succ, Array.replicate_zero, List.push_toArray, List.append_toArray, List.nil_append, List.cons_append]
 refine wpIn_wide.2 ?_
 go_wp2_with (rw [HW.out])
 refine (impl_isSize _ _).mono ?_
 rw [q0]
 rintro e w' ⟨rfl, h9⟩
 replace h9 := h9.symm
 subst h9
 go_wp2_with fail
 refine (impl_isSize _ _).mono ?_
 rw [q1]
 rintro e w' ⟨rfl, h9⟩
 replace h9 := h9.symm
 subst h9
 clear q0 q1
 go_wp2_with (go_at_call 70; refine ((callsIn_wide (n := 3)).1 (rows_in Fence.wide _ trivial rfl _ _ _ _)).mono ?_; rintro e w' ⟨rfl, rfl⟩)
 clear hne d0 d1 d2 e9 hm0 hm1
 obtain ⟨W1, hW1⟩ : ∃ x, x = W0.alloc (.cells #[.int .i64 (R : Int), .int .i64 (C : Int), .slice a n cap] 25) := ⟨_, rfl⟩
 have DB := Lib.hid (show B3 W1 W0.heap.size 25 (.int .i64 (R : Int)) (.int .i64 (C : Int)) (.slice a n cap) by rw [hW1]; exact B3.new _ _ _ _ _)
 have Z1 := Lib.hid (show Boxed W1 (w.heap.size + 1) 4 (.bool false) by rw [hW1]; exact Z.out.alloc _)
 have B1 := Lib.hid (show Below w.heap.size w W1 by rw [hW1]; exact B0.out.alloc B0.out.size _)
 have S1 := Lib.hid (show W1.heap.size = W0.heap.size + 1 by rw [hW1]; simp)
 rw [← hW1]
 clear hW1 z0 z1
 obtain ⟨h, hh⟩ : ∃ h, w.heap.size = h := ⟨_, rfl⟩
 have hs0 := BS.out
 have hs1 := S1.out
 rw [hh] at hs0 Z1 B1 ⊢
 rw [hs0] at hs1 DB ⊢
 have HH := Lib.hid hh
 clear hh D Z B0 BS HW S1 B9
 refine (wpIn_wide (n := 3)).1 ?_
 refine wpIn_rangeFunc_ownG rfl (by omega) (gf := 112) (lb := #[.pointer (some ⟨h + 1 + 1, 0, none⟩)]) rfl trivial (enters_of Tryz.func112 (by kernel_rfl) rfl)
  (rows_stops (h + 1 + 1) R C n _ cap (by omega) a hR hC HRC.out hc (by omega) W1 DB.out) (fun h k => KpM.trans h k) (KpM.putObj (by omega)) (Below.refl _ _) (fun _ => rfl)
  (fun pre W => (Boxed W (h + 1) 4 (.bool false) ∧ rowsB (fun f => ok f.neg f.mag f.den) L C pre ∧ h + 1 + 1 < W.heap.size) ∧ Below h w W)
  (fun c pre W => (c = .ret ∧ Boxed W (h + 1) 4 (.bool false) ∧ L.all (fun f => ok f.neg f.mag f.den) = false) ∧ Below h w W)
  (OwnFrom.and (Own.from (fun s A B row hs hg hr => ⟨boxed_own _ _ (fun _ : List (RowA R) => _) s A B row hs.1 hg hr, hs.2.1, Nat.lt_of_lt_of_le hs.2.2 hg.size⟩) _) (ownFrom_below (by rw [HH.out]; exact Nat.le_refl _) (by omega)))
  (fun c => OwnFrom.and (Own.from (fun s A B row hs hg hr => ⟨hs.1, boxed_own _ _ (fun _ : List (RowA R) => _) s A B row hs.2.1 hg hr, hs.2.2⟩) _) (ownFrom_below (by rw [HH.out]; exact Nat.le_refl _) (by omega)))
  ⟨⟨Z1.out, (fun x hx => by simp at hx), by omega⟩, B1.out⟩
  (fun y => { tmps := #[.agg #[.int .i64 (R : Int), .int .i64 (C : Int), .slice a n cap], .pointer (some ⟨h, 0, none⟩), .pointer (some ⟨h + 1, 0, none⟩), undef, rowV a C y.1, .pointer (some ⟨h, 0, none⟩), .int .i64 (R : Int), .bool true, .bool false, .bool false, .pointer (some ⟨h, 1, none⟩), .int .i64 (C : Int), .bool true, .bool false, .bool false, .bool false, .pointer (some ⟨h, 2, none⟩), .slice a n cap, .int .i64 (n : Int), .pointer (some ⟨h, 0, none⟩), .int .i64 (R : Int), .pointer (some ⟨h, 1, none⟩), .int .i64 (C : Int), .int .i64 ((R : Int) * (C : Int)), .bool false, .bool false, .agg #[.int .i64 (R : Int), .int .i64 (C : Int), .slice a n cap], .func (.func 112) #[] #[.pointer (some ⟨h + 1 + 1, 0, none⟩)], .int .i64 (y.1 : Int), rowV a C y.1, undef, undef, undef], defers := [] }) ?assign ?body ?done ?stop
 case assign =>
  intro l y W K hK
  gi_wp2
  exact hK
 case body =>
  rintro l pre y W ⟨⟨h0, hall, hsz⟩, hB⟩ _
  have hrow := rats_row (HR.out.below (by rw [HH.out]; exact hB)) HN.out HRC.out y.2 hC
  have hlen := rowX_len HN.out HRC.out y.2
  have T := callsIn_wide (n := 0) |>.2 (HV _ _ W hrow)
  have hv : vecB ok (rowX L C y.1) = (rowX L C y.1).all (fun f => ok f.neg f.mag f.den) := by unfold vecB; rw [decide_eq_true (by omega)]; rfl
  rw [hv] at T
  have HT := Lib.hid T
  have K0 := Lib.hid h0
  have KB := Lib.hid hB
  have KA := Lib.hid hall
  have HSZ := Lib.hid hsz
  clear T hv hrow h0 hB hall hsz
  have hbw := HSZ.out
  cases hq : (rowX L C y.1).all (fun f => ok f.neg f.mag f.den) with
  | true =>
   rw [hq] at HT
   have HQ := Lib.hid hq
   clear hq hbw
   gi_wp2_with (refine ⟨trivial, ?_⟩; gi_at_call 64; refine (HT.out.inRound l).mono ?_; rintro e w2 ⟨rfl, bw⟩)
   refine ⟨(KeepsOthers.of_grownBy (grown_of_below bw none) (fun j o e => by cases e)).from _, bw.block _ HSZ.out, ⟨K0.out.kept (grown_of_below bw none) (fun e => by cases e), fun x hx => ?_, Nat.lt_of_lt_of_le HSZ.out bw.size⟩, KB.out.trans (bw.mono (by have := HSZ.out; omega))⟩
   rcases List.mem_append.1 hx with hx | hx
   ·exact KA.out x hx
   ·obtain rfl := List.mem_singleton.1 hx
    exact HQ.out
  | false =>
   rw [hq] at HT
   have HQ := Lib.hid (show L.all (fun f => ok f.neg f.mag f.den) = false by
    cases hL : L.all (fun f => ok f.neg f.mag f.den) with
    | false => rfl
    | true => rw [all_rowX hL C y.1] at hq; cases hq)
   clear hq hbw
   have L0 := Lib.hid K0.out.lt
   gi_wp2_with (refine ⟨trivial, ?_⟩; gi_at_call 64; refine (HT.out.inRound l).mono ?_; rintro e w2 ⟨rfl, bw⟩; have K2 := K0.out.kept (grown_of_below bw none) (fun e => by cases e); have c0 := K2.cell; have f0 := K2.frozen)
   refine ⟨((KeepsOthers.of_grownBy (grown_of_below bw none) (fun j o e => by cases e)).trans (KeepsOthers.setCell _ _ _)).from _, ⟨rfl, K2.set _, HQ.out⟩, (KB.out.trans (bw.mono (by have := HSZ.out; omega))).setCell (p := ⟨h + 1, 0, none⟩) (by simp) _⟩
 case done =>
  rintro D ys W hD hS ⟨⟨h0, hall, hsz⟩, hB⟩ hK
  obtain rfl : x = true := HX.out.trans (HE.out.trans (rowsB_end HN.out HRC.out hS hall))
  have K0 := Lib.hid h0
  have KB := Lib.hid hB
  have HK := Lib.hid hK
  have HDD := Lib.hid hD
  have c1 := h0.cell
  have f1 := h0.frozen
  clear hS h0 hB hK hD hall hsz
  go_wp2
  have hK' := (KeepsOthers.setCell W ⟨h + 1, 0, none⟩ (.bool true)).same D _ HK.out rfl
  have e1 := boxed_shut (K0.out.set (.bool true)) hK'
  have hBl := KB.out.setCell (p := ⟨h + 1, 0, none⟩) (by simp) (.bool true)
  refine ⟨by simp, .inl ⟨_, _, rfl, run_takeDeferred hK', ?_⟩⟩
  refine ⟨.bool true, ?_, rfl, by rw [HH.out]; exact below_shut hBl (by have := HDD.out; omega) (by have := hBl.size; rw [HH.out] at this; exact this)⟩
  simp [results, Tryz.f57, go_sem, e1]
 case stop =>
  rintro D c pre W hD _ ⟨⟨rfl, h0, hall⟩, hB⟩ hK
  obtain rfl : x = false := HX.out.trans (HE.out.trans hall)
  have e1 := boxed_shut h0 hK
  gi_wp2
  refine ⟨by simp, .inl ⟨_, _, rfl, run_takeDeferred hK, ?_⟩⟩
  refine ⟨.bool false, ?_, rfl, by rw [HH.out]; exact below_shut hB (by omega) (by have := hB.size; rw [HH.out] at this; exact this)⟩
  simp [results, Tryz.f57, go_sem, e1]
end Go.Proofs.YtlepgkkpopjgoaaGreat
namespace Go.Proofs.YtlepgkkpopjgoaaGreat
open Go.RowKit Go.WideShapes Go.ChangeShapes
set_option linter.unusedVariables false
set_option linter.unusedSimpArgs false
theorem rowV_some {C : Nat} (h : 0 < C) (b o i : Nat) : rowV (some ⟨b, o, none⟩) C i = .slice (some ⟨b, o + i * C * 3, none⟩) C C := by
 unfold rowV; rw [if_neg (by omega)]; simp [Addr.add]
end Go.Proofs.YtlepgkkpopjgoaaGreat
