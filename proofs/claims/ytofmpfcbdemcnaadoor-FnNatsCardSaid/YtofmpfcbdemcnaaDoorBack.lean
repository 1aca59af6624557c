/- slices.Backward over a slice of limbs: its function value hands over the places from the last one to the first, each with what the slice holds there. -/
import Derived.Test.YtofmpfcbdemcnaaDoorAdd
import Derived.RangeFuncBox
import Derived.RangeFuncNested
import Derived.RangeFuncBound
import Derived.RangeFuncCalls
import Derived.RangeFuncLeaves
import Derived.Shelf.Abstract
import Derived.Shelf.RegionOpen
import Derived.WalkKit
import Derived.OwnWalkIn
import Derived.TacticsInMore
import Derived.LoopNIn
import Derived.LoopIn
namespace Go.Proofs.YtofmpfcbdemcnaaDoor
open Go.RowKit Go.Shelf

attribute [local go_sem] Oper.semAt_some

/-- a place and a value that may stand there -/
abbrev BackA (len : Nat) (V : Nat → Int → Prop) := {p : Nat × Int // p.1 < len ∧ V p.1 p.2}
/-- the first k places from the end -/
def descN (n k : Nat) : List Nat := (List.range k).map (fun j => n - 1 - j)
theorem descN_succ (n k : Nat) : descN n (k + 1) = descN n k ++ [n - 1 - k] := by simp [descN, List.range_succ]
theorem descN_zero (n : Nat) : descN n 0 = [] := rfl
theorem descN_length (n k : Nat) : (descN n k).length = k := by simp [descN]
/-- each place of the slice can be read, and what is read there may stand there -/
def Rd (V : Nat → Int → Prop) (a : Option Addr) (len : Nat) (W : World) : Prop :=
  ∀ i, i < len → ∃ b o z, a = some ⟨b, o, none⟩ ∧ V i z ∧ W.cell? ⟨b, o + i, none⟩ = some (.int .i64 z)
def idx {len : Nat} {V : Nat → Int → Prop} (x : BackA len V) : Nat := x.1.1

/-- what a round keeps: all that lay below n₀, the box Bs, and the slice as one that can be read -/
def KpB (V : Nat → Int → Prop) (a : Option Addr) (len Bs n₀ : Nat) (W W' : World) : Prop :=
  Below n₀ W W' ∧ W'.heap[Bs]? = W.heap[Bs]? ∧ (Rd V a len W → Rd V a len W')
theorem KpB.refl {V : Nat → Int → Prop} {a : Option Addr} {len Bs n₀ : Nat} (W : World) : KpB V a len Bs n₀ W W := ⟨Below.refl _ _, rfl, id⟩
theorem KpB.trans {V : Nat → Int → Prop} {a : Option Addr} {len Bs n₀ : Nat} {A B C : World} (h : KpB V a len Bs n₀ A B) (k : KpB V a len Bs n₀ B C) : KpB V a len Bs n₀ A C :=
  ⟨h.1.trans k.1, k.2.1.trans h.2.1, fun r => k.2.2 (h.2.2 r)⟩
theorem rd_keep {V : Nat → Int → Prop} {a : Option Addr} {len : Nat} {W W' : World} (h : Rd V a len W) (hk : ∀ b o, a = some ⟨b, o, none⟩ → 0 < len → W'.heap[b]? = W.heap[b]?) : Rd V a len W' := by
  intro i hi
  obtain ⟨b, o, z, e, hv, hc⟩ := h i hi
  exact ⟨b, o, z, e, hv, (World.cell?_of_block (a := ⟨b, o + i, none⟩) (hk b o e (by omega))).trans hc⟩
/-- what keeps all that lay is such a round -/
theorem KpB.of_below {V : Nat → Int → Prop} {a : Option Addr} {len Bs n₀ m : Nat} {W W' : World} (hb : Below m W W') (hn : n₀ ≤ m) (hB : Bs < m) (ha : ∀ b o, a = some ⟨b, o, none⟩ → 0 < len → b < m) : KpB V a len Bs n₀ W W' :=
  ⟨hb.mono hn, hb.block Bs hB, fun r => rd_keep r (fun b o e hl => hb.block b (ha b o e hl))⟩
theorem KpB.putObj {V : Nat → Int → Prop} {a : Option Addr} {len Bs n₀ : Nat} {w : World} (hn : n₀ ≤ w.heap.size) (hB : Bs < w.heap.size) (ha : ∀ b o, a = some ⟨b, o, none⟩ → 0 < len → b < w.heap.size)
    (W : World) (l : Nat) (o o' : Obj) (hl : w.heap.size ≤ l) (h : W.heap[l]? = some o) (hc : o.isCells = false) (hw : o.isWalk = false) : KpB V a len Bs n₀ W (W.putObj l o') := by
  have hg := grownBy_putObj' W l o'
  have hlt : l < W.heap.size := (Array.getElem?_eq_some_iff.1 h).1
  refine ⟨belowK_b hn W l o o' hl h hc hw, hg.block Bs (by omega) (fun e => by injection e with e; omega), fun r => rd_keep r (fun b o e hl2 => hg.block b (by have := ha b o e hl2; omega) (fun e2 => by injection e2 with e2; have := ha b o e hl2; omega))⟩
/-- a store into a box of the call's own -/
theorem KpB.setCell {V : Nat → Int → Prop} {a : Option Addr} {len Bs n₀ : Nat} (W : World) {p : Addr} (hn : n₀ ≤ p.block) (hB : Bs ≠ p.block) (ha : ∀ b o, a = some ⟨b, o, none⟩ → 0 < len → b ≠ p.block) (u : Value) : KpB V a len Bs n₀ W (W.setCell p u) :=
  ⟨(Below.refl _ W).setCell hn u, Below.heap_setCell W p u Bs hB, fun r => rd_keep r (fun b o e hl => Below.heap_setCell W p u b (ha b o e hl))⟩

set_option maxRecDepth 100000 in
set_option maxHeartbeats 2000000 in
theorem back1_in (F : Fence) (n : Nat) (h7 : F.fn 84) (hro : F.round = none) (hn : 1 ≤ n) (l Bs n₀ len cap : Nat) (a : Option Addr) (V : Nat → Int → Prop) (hlen : len ≤ 1099511627776) (J Jx : List (BackA len V) → World → Prop)
    (hY : ∀ pre x W, J pre W → pre.length < len → YieldAt F (n - 1) Tryd.prog l #[.int .i64 (x.1.1 : Int), .int .i64 x.1.2] W fun e W' =>
      (e = .returned (.bool true) ∧ J (pre ++ [x]) W' ∧ KpB V a len Bs n₀ W W') ∨ (e = .returned (.bool false) ∧ Jx (pre ++ [x]) W'))
    (W : World) (hBs : W.cell? ⟨Bs, 0, none⟩ = some (.slice a len cap)) (hrd : Rd V a len W) (h0 : J [] W) :
    CallsIn F n Tryd.prog 84 #[.func (.yield l) #[] #[], .pointer (some ⟨Bs, 0, none⟩)] W fun e W' => (∃ v, e = .returned v) ∧
      ((∃ ys, ys.map idx = descN len len ∧ J ys W') ∨ (∃ pre, (∃ k, k ≤ len ∧ pre.map idx = descN len k) ∧ Jx pre W')) := by
  refine callsIn_of_wp Tryd.func84 rfl h7 ?_ hro
  simp only [Tryd.ntmps84, List.size_toArray, List.length_cons, List.length_nil, Nat.reduceAdd, Nat.reduceSub, Array.replicate_succ, Array.replicate_zero, List.push_toArray, List.append_toArray, List.nil_append, List.cons_append]
  gi_wp2
  gi_loopw [3] (fun i wr => (∃ (j : Nat) (pre : List (BackA len V)), j < len ∧ i = .int .i64 (j : Int) ∧ Hid (pre.map idx = descN len (len - 1 - j)) ∧ Hid (J pre wr) ∧ Hid (Rd V a len wr) ∧ wr.cell? ⟨Bs, 0, none⟩ = some (.slice a len cap)) ∨
      (∃ pre : List (BackA len V), i = .int .i64 (-1) ∧ Hid (pre.map idx = descN len len) ∧ Hid (J pre wr)))
    (fun i _ => (intOf i + 1).toNat)
  case atStart =>
    by_cases hl : 0 < len
    · refine .inl ⟨len - 1, [], by omega, by go_num, by unfold Hid; rw [Nat.sub_self, descN_zero]; rfl, h0, hrd, hBs⟩
    · obtain rfl : len = 0 := by omega
      exact .inr ⟨[], rfl, rfl, h0⟩
  case round =>
    rcases hrel with ⟨j, pre, hj, rfl, HP, HJ, HR, hbx⟩ | ⟨pre, rfl, HP, HJ⟩
    · obtain ⟨b, o, z, ha, hv, hc⟩ := HR.out j hj
      have HV := Lib.hid hv
      clear hv
      have hpl : pre.length < len := by have := congrArg List.length HP.out; rw [List.length_map, descN_length] at this; omega
      obtain ⟨fn, tmps, assign, body, hy, hR⟩ := hY pre ⟨(j, z), hj, HV.out⟩ wr HJ.out hpl
      dsimp only at hy
      have HA := Lib.hid ha
      subst ha
      have HYY := Lib.hid hR
      have HBS := Lib.hid hBs
      clear hR hY hBs hrd h0 hpl
      gi_wp2
      refine HYY.out.mono ?_
      rintro e W3 (⟨rfl, hJ3, hk3⟩ | ⟨rfl, hJx3⟩)
      · have HJ3 := Lib.hid hJ3
        have HK3 := Lib.hid hk3
        have hbx3 : W3.cell? ⟨Bs, 0, none⟩ = some (.slice (some ⟨b, o, none⟩) len cap) := (World.cell?_of_block (a := ⟨Bs, 0, none⟩) hk3.2.1).trans hbx
        have HRd := Lib.hid (hk3.2.2 HR.out)
        have HD : Hid ((pre ++ [(⟨(j, z), hj, HV.out⟩ : BackA len V)]).map idx = descN len (len - 1 - j + 1)) := by
          unfold Hid
          rw [List.map_append, HP.out, descN_succ]
          congr 1
          show [j] = _
          congr 1; omega
        clear hJ3 hk3 hbx
        gi_wp2
        go_roundw
        case rel =>
          by_cases hj0 : 0 < j
          · exact .inl ⟨j - 1, _, by omega, by go_num, by rw [show len - 1 - (j - 1) = len - 1 - j + 1 by omega]; exact HD, HJ3, HRd, hbx3⟩
          · exact .inr ⟨_, by go_num, by rw [show len - 1 - j + 1 = len by omega] at HD; exact HD, HJ3⟩
        case measure => simp [intOf]
      · have HJ3 := Lib.hid hJx3
        have HD : Hid ((pre ++ [(⟨(j, z), hj, HV.out⟩ : BackA len V)]).map idx = descN len (len - 1 - j + 1)) := by
          unfold Hid
          rw [List.map_append, HP.out, descN_succ]
          congr 1
          show [j] = _
          congr 1; omega
        clear hJx3
        gi_wp2
        refine bodyPost_ret (results_none rfl _ _ _) rfl ?_
        exact ⟨⟨_, rfl⟩, .inr ⟨_, ⟨len - 1 - j + 1, by omega, HD.out⟩, HJ3.out⟩⟩
    · gi_wp2
      go_end0
      exact ⟨⟨_, rfl⟩, .inl ⟨_, HP.out, HJ.out⟩⟩

/-- Backward hands back the closure over a box that holds the slice -/
theorem back_in (F : Fence) (n : Nat) (h5 : F.fn 66) (hro : F.round = none) (a : Option Addr) (len cap : Nat) (w : World) :
    CallsIn F n Tryd.prog 66 #[.slice a len cap] w fun e w' => e = .returned (.func (.func 84) #[] #[.pointer (some ⟨w.heap.size, 0, none⟩)]) ∧ w' = w.alloc (.cells #[.slice a len cap] 53) := by
  refine callsIn_of_wp Tryd.func66 rfl h5 ?_ hro
  simp only [Tryd.ntmps66, List.size_toArray, List.length_cons, List.length_nil, Nat.reduceAdd, Nat.reduceSub, Array.replicate_succ, Array.replicate_zero, List.push_toArray, List.append_toArray, List.nil_append, List.cons_append]
  gi_wp2
  go_ret
  exact ⟨rfl, rfl⟩

theorem back_stops (F : Fence) (n : Nat) (h7 : F.fn 84) (hro : F.round = none) (hn : 1 ≤ n) (Bs n₀ len cap : Nat) (a : Option Addr) (V : Nat → Int → Prop) (hlen : len ≤ 1099511627776) (w : World)
    (hc : w.cell? ⟨Bs, 0, none⟩ = some (.slice a len cap)) (hrd : Rd V a len w) :
    SeqStopsK F n Tryd.prog 84 #[.pointer (some ⟨Bs, 0, none⟩)] (fun x : BackA len V => #[Value.int .i64 (x.1.1 : Int), Value.int .i64 x.1.2]) (KpB V a len Bs n₀) (fun ys => ys.map idx = descN len len)
      (fun pre => ∃ k, k ≤ len ∧ pre.map idx = descN len k) len w := fun l J Jx W hW _ _ hY h0 =>
  back1_in F n h7 hro hn l Bs n₀ len cap a V hlen J Jx hY W
    ((hW.cell (p := ⟨Bs, 0, none⟩) (by have := World.block_lt_of_cell? w _ hc; simpa using this)).trans hc)
    (fun i hi => by
      obtain ⟨b, o, z, e, hv, hx⟩ := hrd i hi
      exact ⟨b, o, z, e, hv, (hW.cell (p := ⟨b, o + i, none⟩) (by have := World.block_lt_of_cell? w _ hx; simpa using this)).trans hx⟩) h0

end Go.Proofs.YtofmpfcbdemcnaaDoor
