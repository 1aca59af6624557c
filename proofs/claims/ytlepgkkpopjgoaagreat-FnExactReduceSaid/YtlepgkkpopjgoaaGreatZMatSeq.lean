/- The program's sizes and rows of a matrix, and the sequence of its rows. -/
import Derived.Test.YtlepgkkpopjgoaaGreatZMatx
import Derived.Test.YtlepgkkpopjgoaaGreatZSums
import Derived.BigQuiet
namespace Go.Proofs.YtlepgkkpopjgoaaGreat
open Go.RowKit Go.WideShapes Go.ChangeShapes Go.Shelf
set_option linter.unusedVariables false
set_option linter.unusedSimpArgs false
attribute [local go_sem] Oper.semAt_some
theorem impl_isSize (n : Int) (w : World) :
    Calls Tryz.prog 67 #[.int .i64 n] w fun e w' => e = .returned (.bool (dimB n)) ∧ w' = w := by
  by_cases h : 0 ≤ n
  · go_enter Tryz.func67, Tryz.ntmps67
    go_wp2
    go_ret
    exact ⟨ret_bool (by unfold dimB; simp [h]), rfl⟩
  · go_enter Tryz.func67, Tryz.ntmps67
    go_wp2
    go_ret
    exact ⟨ret_bool (by unfold dimB; rw [decide_eq_false (show ¬ 0 ≤ n by omega)]; rfl), rfl⟩

/-- the row i of a matrix of C columns, in its memory -/
def rowV (a : Option Addr) (C i : Nat) : Value := if C = 0 then .slice a 0 0 else .slice (a.map (·.add (i * C * 3))) C C
set_option maxRecDepth 100000 in
set_option maxHeartbeats 1000000 in
theorem impl_row (r : Int) (C i n : Nat) (a : Option Addr) (cap : Nat) (w : World) (hi : i * C + C ≤ n) (hn : n ≤ 576) (hC : C ≤ 24) (hi2 : i ≤ 24) (hc : n ≤ cap) (hcm : cap ≤ 9223372036854775807) :
    Calls Tryz.prog 75 #[.agg #[.int .i64 r, .int .i64 (C : Int), .slice a n cap], .int .i64 (i : Int)] w fun e w' => e = .returned (rowV a C i) ∧ Below w.heap.size w w' := by
  obtain ⟨l, hl⟩ : ∃ l, i * C = l := ⟨_, rfl⟩
  have p1 : (i : Int) * (C : Int) = (l : Int) := by rw [← hl, Int.natCast_mul]
  have p2 : ((i : Int) + 1) * (C : Int) = ((l + C : Nat) : Int) := by rw [Int.add_mul, p1, Int.one_mul, Int.natCast_add]
  rw [hl] at hi
  have BA := Lib.hid ((Below.refl w.heap.size w).alloc (Nat.le_refl _) (.cells #[.int .i64 r, .int .i64 (C : Int), .slice a n cap] 25))
  have D := Lib.hid (B3.new w 25 (.int .i64 r) (.int .i64 (C : Int)) (.slice a n cap))
  obtain ⟨x, hx⟩ : ∃ x, x = rowV a C i := ⟨_, rfl⟩
  rw [← hx]
  have HX := Lib.hid hx
  clear hx
  by_cases hC0 : C = 0
  · subst hC0
    obtain rfl : x = .slice a 0 0 := HX.out.trans (by unfold rowV; rfl)
    obtain rfl : l = 0 := by omega
    have d1 := D.out.c1
    have d2 := D.out.c2
    go_enter Tryz.func75, Tryz.ntmps75
    go_wp2_with fail
    go_quiet (fail)
    all_goals go_wp2
    all_goals go_ret
    exact ⟨rfl, below_drewN BA.out _⟩
  · obtain rfl : x = .slice (a.map (·.add (l * 3))) C C := HX.out.trans (by unfold rowV; rw [if_neg hC0, hl])
    have d1 := D.out.c1
    have d2 := D.out.c2
    go_enter Tryz.func75, Tryz.ntmps75
    go_wp2_with fail
    go_quiet (fail)
    all_goals go_wp2
    all_goals go_ret
    have e9 : l + C - l = C := by omega
    exact ⟨by simp only [e9]; rfl, below_drewN BA.out _⟩

abbrev RowA (R : Nat) := {k : Nat // k < R}
def rix {R : Nat} (x : RowA R) : Nat := x.1
/-- what a round keeps: the box of the matrix -/
def KpM (Bs : Nat) (W W' : World) : Prop := W'.heap[Bs]? = W.heap[Bs]?
theorem KpM.trans {Bs : Nat} {A B C : World} (h : KpM Bs A B) (k : KpM Bs B C) : KpM Bs A C := Eq.trans k h
theorem KpM.putObj {Bs : Nat} {w : World} (hB : Bs < w.heap.size) (W : World) (l : Nat) (o o' : Obj) (hl : w.heap.size ≤ l) (h : W.heap[l]? = some o) (hc : o.isCells = false) (hw : o.isWalk = false) : KpM Bs W (W.putObj l o') :=
  World.putObj_heap_other (by omega)
theorem grown_of_below {W W' : World} (h : Below W.heap.size W W') (row : Option Nat) : W.grownBy W' row := ⟨h.os, h.tape, h.output, h.size, fun k hk _ => h.block k hk⟩

/-- rows hands back the closure over a box that holds the matrix -/
theorem rows_in (F : Fence) (n : Nat) (h5 : F.fn 70) (hro : F.round = none) (x y z : Value) (w : World) :
    CallsIn F n Tryz.prog 70 #[.agg #[x, y, z]] w fun e w' => e = .returned (.func (.func 112) #[] #[.pointer (some ⟨w.heap.size, 0, none⟩)]) ∧ w' = w.alloc (.cells #[x, y, z] 25) := by
  refine callsIn_of_wp Tryz.func70 rfl h5 ?_ hro
  simp only [Tryz.ntmps70, List.size_toArray, List.length_cons, List.length_nil, Nat.reduceAdd, Nat.reduceSub, Array.replicate_succ, Array.replicate_zero, List.push_toArray, List.append_toArray, List.nil_append, List.cons_append]
  gi_wp2
  go_ret
  exact ⟨rfl, rfl⟩

set_option maxRecDepth 100000 in
set_option maxHeartbeats 2000000 in
theorem rows1_in (l Bs R C n m cap : Nat) (hm : 1 ≤ m) (a : Option Addr) (hR : R ≤ 24) (hC : C ≤ 24) (hn : n = R * C) (hnc : n ≤ cap) (hcm : cap ≤ 9223372036854775807) (J Jx : List (RowA R) → World → Prop) (h9 : Nat)
    (hJ : AbidesFrom h9 J)
    (hY : ∀ pre x W, J pre W → pre.length < R → YieldAt Fence.wide (m - 1) Tryz.prog l #[.int .i64 (x.1 : Int), rowV a C x.1] W fun e W' =>
      (e = .returned (.bool true) ∧ J (pre ++ [x]) W' ∧ KpM Bs W W') ∨ (e = .returned (.bool false) ∧ Jx (pre ++ [x]) W'))
    (W : World) (hBs : B3 W Bs 25 (.int .i64 (R : Int)) (.int .i64 (C : Int)) (.slice a n cap)) (h0 : J [] W) :
    CallsIn Fence.wide m Tryz.prog 112 #[.func (.yield l) #[] #[], .pointer (some ⟨Bs, 0, none⟩)] W fun e W' => (∃ v, e = .returned v) ∧
      ((∃ ys, ys.map rix = List.range R ∧ J ys W') ∨ (∃ pre, (∃ k, k ≤ R ∧ pre.map rix = List.range k) ∧ Jx pre W')) := by
  have HBS := Lib.hid hBs
  have b0 := hBs.c0
  refine callsIn_of_wp Tryz.func112 rfl trivial ?_ rfl
  simp only [Tryz.ntmps112, List.size_toArray, List.length_cons, List.length_nil, Nat.reduceAdd, Nat.reduceSub, Array.replicate_succ, Array.replicate_zero, List.push_toArray, List.append_toArray, List.nil_append, List.cons_append]
  gi_wp2
  clear b0 hBs
  gi_loopw [6] (fun i wr => ∃ (k : Nat) (pre : List (RowA R)), k ≤ R ∧ i = .int .i64 (k : Int) ∧ Hid (pre.map rix = List.range k) ∧ Hid (J pre wr) ∧ Hid (B3 wr Bs 25 (.int .i64 (R : Int)) (.int .i64 (C : Int)) (.slice a n cap)))
    (fun i _ => R - (intOf i).toNat)
  case atStart => exact ⟨0, [], Nat.zero_le _, rfl, rfl, h0, HBS⟩
  case round =>
    clear HBS h0
    obtain ⟨k, pre, hk, rfl, HP, HJ, HB⟩ := hrel
    by_cases hlt : k < R
    · have hpl : pre.length < R := by have := congrArg List.length HP.out; rw [List.length_map, List.length_range] at this; omega
      have c0 := HB.out.c0
      have c1 := HB.out.c1
      have c2 := HB.out.c2
      have hrow : Hid (∀ W : World, CallsIn Fence.wide 0 Tryz.prog 75 #[.agg #[.int .i64 (R : Int), .int .i64 (C : Int), .slice a n cap], .int .i64 (k : Int)] W fun e w' => e = .returned (rowV a C k) ∧ Below W.heap.size W w') :=
        fun W => callsIn_wide.2 (impl_row (R : Int) C k n a cap W (by rw [hn]; exact row_in hlt) (by rw [hn]; have := Nat.mul_le_mul hR hC; omega) hC (by omega) hnc hcm)
      have HYK := Lib.hid (fun W1 (hW : Below wr.heap.size wr W1) => hY pre ⟨k, hlt⟩ W1 (hJ pre wr W1 none HJ.out (grown_of_below hW none) (fun r e => by cases e)) hpl)
      clear hn hY
      gi_wp2_with (refine ⟨trivial, ?_⟩; gi_at_call 75; refine (callsIn_wide.2 (callsIn_wide.1 (hrow.out _))).mono ?_; rintro e w2 ⟨rfl, bw⟩; obtain ⟨fn, tmps, assign, body, hy, hRR⟩ := HYK.out w2 bw; dsimp only at hy; have HB2 := Lib.hid (HB.out.below bw); have HYY := Lib.hid hRR; clear hRR)
      refine HYY.out.mono ?_
      rintro e W3 (⟨rfl, hJ3, hk3⟩ | ⟨rfl, hJx3⟩)
      · have HJ3 := Lib.hid hJ3
        have HB3 := Lib.hid (show B3 W3 Bs 25 (.int .i64 (R : Int)) (.int .i64 (C : Int)) (.slice a n cap) from Eq.trans hk3 HB2.out)
        have HD : Hid ((pre ++ [(⟨k, hlt⟩ : RowA R)]).map rix = List.range (k + 1)) := by
          unfold Hid
          rw [List.map_append, HP.out, List.range_succ]; rfl
        clear hJ3 hk3
        gi_wp2
        go_roundw
        case rel => exact ⟨k + 1, _, by omega, by go_num, HD, HJ3, HB3⟩
        case measure => simp [intOf]; omega
      · have HJ3 := Lib.hid hJx3
        have HD : Hid ((pre ++ [(⟨k, hlt⟩ : RowA R)]).map rix = List.range (k + 1)) := by
          unfold Hid
          rw [List.map_append, HP.out, List.range_succ]; rfl
        clear hJx3
        gi_wp2
        refine bodyPost_ret (results_none rfl _ _ _) rfl ?_
        exact ⟨⟨_, rfl⟩, .inr ⟨_, ⟨k + 1, by omega, HD.out⟩, HJ3.out⟩⟩
    · obtain rfl : k = R := by omega
      gi_wp2
      go_end0
      exact ⟨⟨_, rfl⟩, .inl ⟨_, HP.out, HJ.out⟩⟩

theorem rows_stops (Bs R C n m cap : Nat) (hm : 1 ≤ m) (a : Option Addr) (hR : R ≤ 24) (hC : C ≤ 24) (hn : n = R * C) (hnc : n ≤ cap) (hcm : cap ≤ 9223372036854775807) (w : World)
    (hc : B3 w Bs 25 (.int .i64 (R : Int)) (.int .i64 (C : Int)) (.slice a n cap)) :
    SeqStopsK Fence.wide m Tryz.prog 112 #[.pointer (some ⟨Bs, 0, none⟩)] (fun x : RowA R => #[Value.int .i64 (x.1 : Int), rowV a C x.1]) (KpM Bs) (fun ys => ys.map rix = List.range R)
      (fun pre => ∃ k, k ≤ R ∧ pre.map rix = List.range k) R w := fun l J Jx W hW hJ _ hY h0 =>
  rows1_in l Bs R C n m cap hm a hR hC hn hnc hcm J Jx _ hJ hY W (hc.below hW) h0
end Go.Proofs.YtlepgkkpopjgoaaGreat
