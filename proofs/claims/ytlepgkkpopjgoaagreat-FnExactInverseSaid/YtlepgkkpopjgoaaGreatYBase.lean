/- Base: Digits Marks Rows1 Ints Fill NatOk NatOk2 LawTail NatOf Big. -/
import Derived.Test.YtlepgkkpopjgoaaGreatRows
import Derived.WalkKit
import Derived.WalkSpells
import Derived.WalkLawsBesides
import Derived.Lib.Hide
import Derived.Lib.OthersKept
import Derived.Lib.RuneCount
import Derived.BigQuiet
import Derived.Deep.QuietTactic
import Derived.Lib.Strings
import Derived.ChangeAlike
import Derived.RegionTactic
import Derived.Deep.RegionHeld3
import Derived.Deep.MidRow
import Derived.Laws.MakeOwn
import Derived.Laws.AppendOwn
import Derived.Test.YtlepgkkpopjgoaaGreatYNumb
import Derived.Laws.OwnMore
import Derived.ProofKit
import Derived.OpenShut
import Derived.Maps.AppendAt
import Derived.Lib.SmallJoins
import Derived.Laws.ResultCell
import Derived.RangeFuncBox
namespace Go.Proofs.YtlepgkkpopjgoaaGreat
set_option maxRecDepth 100000
set_option linter.unusedVariables false
set_option linter.unusedSimpArgs false
open Go.RowKit
theorem ret_bool {a b : Bool} (h : a = b) : Ending.returned (.bool a) = .returned (.bool b) := by rw [h]
end Go.Proofs.YtlepgkkpopjgoaaGreat
namespace Go.Proofs.YtlepgkkpopjgoaaGreat
set_option maxRecDepth 100000
set_option linter.unusedVariables false
set_option linter.unusedSimpArgs false
open Go.RowKit
def markD (n : Nat) : List UInt8 := if h : n = 0 then [] else markD (n / 10) ++ [48 + UInt8.ofNat (n % 10)]
termination_by n
decreasing_by omega
def markT (k : Int) : ByteArray := if k ≤ 0 then ⟨#[109, 48]⟩ else ⟨(109 :: markD k.toNat).toArray⟩
end Go.Proofs.YtlepgkkpopjgoaaGreat
namespace Go.Proofs.YtlepgkkpopjgoaaGreat
set_option maxRecDepth 100000
set_option linter.unusedVariables false
set_option linter.unusedSimpArgs false
open Go.RowKit
def RowOf {α : Type} (f : α → Value) (w : World) (v : Value) (xs : List α) : Prop :=
 ∃ a cap, v = .slice a xs.length cap ∧ xs.length ≤ cap ∧ cap ≤ maxLen ∧ ∀ i (h : i < xs.length), ∃ b o, a = some ⟨b, o, none⟩ ∧ w.cell? ⟨b, o + i, none⟩ = some (f (xs[i]'h))
theorem grownBy_refl (w : World) (row : Option Nat) : w.grownBy w row := ⟨rfl, rfl, rfl, Nat.le_refl _, fun _ _ _ => rfl⟩
theorem grownBy_trans {a b c : World} {row : Option Nat} (h : a.grownBy b row) (k : b.grownBy c row) : a.grownBy c row :=
 ⟨k.os.trans h.os, k.tape.trans h.tape, k.output.trans h.output, Nat.le_trans h.size k.size, fun i hi hr => (k.block i (by have := h.size; omega) hr).trans (h.block i hi hr)⟩
theorem grownBy_of_below {w w' : World} (h : Below w.heap.size w w') (row : Option Nat) : w.grownBy w' row :=
 ⟨h.os, h.tape, h.output, h.size, fun k hk _ => h.block k hk⟩
theorem ownsRow_below {w w' : World} {B : Nat} {e : TypeId} {size : Nat} {v : Value} {n : Nat} {xs : List Value} (h : w.ownsRow B e size v n xs) (hb : Below w.heap.size w w') : w'.ownsRow B e size v n xs :=
 h.kept (grownBy_of_below hb none) (by cases v.ownBlock <;> simp)
theorem ownsRow_row {α : Type} {f : α → Value} {w : World} {B : Nat} {e : TypeId} {v : Value} {n : Nat} {xs : List α} (h : w.ownsRow B e 1 v n (xs.map f)) : RowOf f w v xs := by
 obtain ⟨hl, h⟩ := h
 simp at hl
 rcases h with ⟨rfl, rfl⟩ | ⟨g, cap, cur, rfl, _, hg, h1, h2, h3, h4⟩
 ·exact ⟨none, 0, by rw [hl], by omega, by unfold maxLen; omega, fun i hi => by omega⟩
 ·refine ⟨some ⟨g, 0, none⟩, cap, by rw [hl], by omega, h2, fun i hi => ⟨g, 0, rfl, ?_⟩⟩
  have hx : (xs.map f)[i]? = some (f (xs[i]'hi)) := by simp [hi]
  rw [← h4] at hx
  have hc := World.ownsRow.cellAt (w := w) (base := B) (e := e) (size := 1) (g := g) (n := n) (cap := cap) (xs := xs.map f) ⟨by simp [hl], .inr ⟨g, cap, cur, rfl, by assumption, hg, h1, h2, h3, h4⟩⟩ i (by omega)
  rw [Nat.zero_add, hc]; simp [hi]
def marks (m k : Nat) : List ByteArray := (List.range k).map fun i => markT ((m + i : Nat) : Int)
end Go.Proofs.YtlepgkkpopjgoaaGreat
namespace Go.Proofs.YtlepgkkpopjgoaaGreat
set_option maxRecDepth 100000
set_option linter.unusedVariables false
set_option linter.unusedSimpArgs false
open Go.RowKit
theorem ret_int {a b : Int} (h : a = b) : Ending.returned (.int .i64 a) = .returned (.int .i64 b) := by rw [h]
def iV (x : Int) : Value := .int .i64 x
def OwnI (w : World) (B : Nat) (v : Value) (l : List Int) : Prop := w.ownsRow B 3 1 v l.length (l.map iV)
theorem ownsRow_base {w : World} {B B' : Nat} {e : TypeId} {size : Nat} {v : Value} {n : Nat} {xs : List Value} (h : w.ownsRow B e size v n xs) (hB : B' ≤ B) : w.ownsRow B' e size v n xs := by
 obtain ⟨hl, h⟩ := h
 refine ⟨hl, ?_⟩
 rcases h with h | ⟨g, cap, cur, h1, h2, h3⟩
 ·exact .inl h
 ·exact .inr ⟨g, cap, cur, h1, by omega, h3⟩
theorem rowOf_below {α : Type} {f : α → Value} {w w' : World} {v : Value} {xs : List α} (h : RowOf f w v xs) (hb : Below w.heap.size w w') : RowOf f w' v xs := by
 obtain ⟨a, c, h1, h2, h3, h4⟩ := h
 refine ⟨a, c, h1, h2, h3, fun i hi => ?_⟩
 obtain ⟨b, o, e, hx⟩ := h4 i hi
 exact ⟨b, o, e, (hb.cell (p := ⟨b, o + i, none⟩) (by have := World.block_lt_of_cell? w _ hx; simpa using this)).trans hx⟩
theorem below_drewN {B : Nat} {a w : World} (h : Below B a w) (q : Nat) : Below B a (w.drewN q) := ⟨h.os, h.tape, h.output, h.size, h.block⟩
theorem OwnI.row {w : World} {B : Nat} {v : Value} {l : List Int} (h : OwnI w B v l) : RowOf iV w v l := ownsRow_row h
theorem OwnI.below {w w' : World} {B : Nat} {v : Value} {l : List Int} (h : OwnI w B v l) (hb : Below w.heap.size w w') : OwnI w' B v l := ownsRow_below h hb
theorem OwnI.drewN {w : World} {B : Nat} {v : Value} {l : List Int} (h : OwnI w B v l) (q : Nat) : OwnI (w.drewN q) B v l := h
theorem OwnI.base {w : World} {B B' : Nat} {v : Value} {l : List Int} (h : OwnI w B v l) (hB : B' ≤ B) : OwnI w B' v l := ownsRow_base h hB
theorem OwnI.nil (w : World) (B : Nat) : OwnI w B (.slice none 0 0) [] := World.ownsRow_nil _ _ _ _
theorem OwnI.other {w w' : World} {B : Nat} {v : Value} {l : List Int} {row : Option Nat} (h : OwnI w B v l) (hg : w.grownBy w' row) (hne : ∀ g g', v.ownBlock = some g → row = some g' → g ≠ g') : OwnI w' B v l :=
 World.ownsRow.kept h hg (by cases hv : v.ownBlock with
  | none => exact .inl rfl
  | some g => exact .inr (fun h => by cases row with
   | none => simp at h
   | some g' => exact hne g g' hv rfl (by simpa using h)))
theorem OwnI.take {w : World} {B : Nat} {a : Option Addr} {n c : Nat} {l : List Int} (h : OwnI w B (.slice a n c) l) {k : Nat} (hk : k ≤ n) : OwnI w B (.slice a k c) (l.take k) := by
 obtain ⟨hl, ho⟩ := h
 rcases ho with ⟨hv, hn⟩ | ⟨g, cap, cur, hv, hB, hg, h1, h2, h3, h4⟩
 ·injection hv with e1 e2 e3
  subst e1 e3
  obtain rfl : k = 0 := by omega
  rw [List.take_zero]
  exact OwnI.nil w B
 ·injection hv with e1 e2 e3
  subst e1 e3
  have hkl : (l.take k).length = k := by rw [List.length_take]; omega
  refine ⟨by simp, .inr ⟨g, c, cur, by rw [hkl], hB, hg, by omega, h2, h3, ?_⟩⟩
  rw [hkl, Nat.mul_one]
  have := congrArg (List.take k) h4
  rw [List.take_take, Nat.mul_one, Nat.min_eq_left (by omega)] at this
  rw [this, List.map_take]
theorem info_int : (Tryz.prog.info? 3).map (fun i => (i.zero, i.size, i.bytes)) = some (some (.int .i64 0), 1, 8) := by kernel_rfl
set_option maxHeartbeats 400000 in
theorem eq_ints (v1 v2 : Value) (ss : List Int) (w : World) (h1 : RowOf iV w v1 ss) (h2 : RowOf iV w v2 ss) :
  Calls Tryz.prog 31 #[v1, v2] w fun e w' => e = .returned (.bool true) ∧ ∃ q, w' = w.drewN q := by
 obtain ⟨a1, c1, rfl, hc1, hm1, hr1⟩ := h1
 obtain ⟨a2, c2, rfl, hc2, hm2, hr2⟩ := h2
 unfold maxLen at hm1 hm2
 have hl : ss.length ≤ 9223372036854775807 := by omega
 have hneq : ((ss.length : Int) != (ss.length : Int)) = false := by simp
 have R1 := Lib.hid hr1
 have R2 := Lib.hid hr2
 clear hr1 hr2 hc1 hm1 hc2 hm2
 obtain ⟨n, hn⟩ : ∃ n, ss.length = n := ⟨_, rfl⟩
 rw [hn] at hl hneq ⊢
 have HN := Lib.hid hn
 clear hn
 go_enter Tryz.func31, Tryz.ntmps31
 go_wp2
 go_loopw [5] (fun i wr => ∃ k : Nat, k ≤ n ∧ i = .int .i64 k ∧ ∃ q, wr = w.drewN q) (fun i _ => n - (intOf i).toNat)
 case atStart => exact ⟨0, Nat.zero_le _, rfl, 0, rfl⟩
 case round =>
  obtain ⟨k, hk, rfl, q, rfl⟩ := hrel
  by_cases hlt : k < n
  ·obtain ⟨b1, o1, rfl, hx1⟩ := R1.out k (by rw [HN.out]; exact hlt)
   obtain ⟨b2, o2, rfl, hx2⟩ := R2.out k (by rw [HN.out]; exact hlt)
   clear R1 R2
   obtain ⟨s, hs⟩ : ∃ s, ss[k]'(by rw [HN.out]; exact hlt) = s := ⟨_, rfl⟩
   rw [hs] at hx1 hx2
   unfold iV at hx1 hx2
   clear hs
   go_wp2
   go_region
   go_wp2
   go_roundw
   case rel => exact ⟨k + 1, by omega, by go_num, q + 1, rfl⟩
   case measure => simp [intOf]; omega
  ·go_wp2
   go_ret
   exact ⟨rfl, _, rfl⟩
def marksI (m k : Nat) : List Int := (List.range k).map fun i => ((m + i : Nat) : Int)
theorem marksI_length (m k : Nat) : (marksI m k).length = k := by simp [marksI]
theorem marksI_succ (m k : Nat) : marksI m (k + 1) = marksI m k ++ [((m + k : Nat) : Int)] := by simp [marksI, List.range_succ]
theorem marksI_set (m k : Nat) (xs : List Value) (h : k < xs.length) : ((marksI m k).map iV ++ xs.drop k).set k (.int .i64 ((m + k : Nat) : Int)) = (marksI m (k + 1)).map iV ++ xs.drop (k + 1) := by
 have hd : xs.drop k = xs[k]'h :: xs.drop (k + 1) := List.drop_eq_getElem_cons h
 rw [marksI_succ, List.map_append, List.set_append_right _ _ (by simp [marksI_length])]
 rw [List.length_map, marksI_length, Nat.sub_self, hd, List.set_cons_zero, List.append_assoc]
 rfl
set_option maxHeartbeats 400000 in
theorem mark_ints0 (v : Value) (n m : Nat) (xs : List Value) (B : Nat) (w : World) (h : w.ownsRow B 3 1 v n xs) (hm : m + n ≤ 9223372036854775807) :
  Calls Tryz.prog 33 #[v, .int .i64 m] w fun e w' => e = .returned (.int .i64 ((m : Int) + (n : Int))) ∧ w'.ownsRow B 3 1 v n ((marksI m n).map iV) ∧ w.grownBy w' v.ownBlock := by
 have hl := h.1
 rcases h.2 with ⟨rfl, rfl⟩ | ⟨g, cap, cur, rfl, hB, hg, hn, hmx, hsz, htk⟩
 ·go_enter Tryz.func33, Tryz.ntmps33
  go_wp2
  go_loop [1, 5] (fun kv iv => kv = .int .i64 m ∧ iv = .int .i64 0) (fun _ _ => 0)
  case atStart => exact ⟨rfl, rfl⟩
  case round =>
   obtain ⟨rfl, rfl⟩ := hrel
   go_wp2
   go_ret
   exact ⟨by simp, World.ownsRow_nil _ _ _ _, grownBy_refl _ _⟩
 ·have H := Lib.hid h
  clear h htk hsz hg
  unfold maxLen at hmx
  have HL := Lib.hid hl
  clear hl
  go_enter Tryz.func33, Tryz.ntmps33
  go_wp2
  go_loopw [1, 5] (fun kv iv wr => ∃ k : Nat, k ≤ n ∧ kv = .int .i64 ((m : Int) + (k : Int)) ∧ iv = .int .i64 k ∧ Hid (wr.ownsRow B 3 1 (.slice (some ⟨g, 0, none⟩) n cap) n ((marksI m k).map iV ++ xs.drop k)) ∧ w.grownBy wr (some g)) (fun _ i _ => n - (intOf i).toNat)
  case atStart => exact ⟨0, Nat.zero_le _, by simp, rfl, H.out, grownBy_refl _ _⟩
  case round =>
   obtain ⟨k, hk, rfl, rfl, HO, hgr⟩ := hrel
   by_cases hlt : k < n
   ·have hfz := World.ownsRow.frozenAt HO.out k
    have hce := World.ownsRow.cellAt HO.out k (by omega)
    obtain ⟨old, ho⟩ : ∃ old, ((marksI m k).map iV ++ xs.drop k)[k]? = some old := ⟨_, List.getElem?_eq_getElem (by simp [marksI_length]; have := HL.out; omega)⟩
    rw [ho] at hce
    clear ho
    have HS := Lib.hid (World.ownsRow.stored HO.out k (.int .i64 ((m : Int) + (k : Int))))
    have HG := Lib.hid (grownBy_trans hgr HS.out.2)
    clear hgr
    go_wp2
    go_roundw
    case rel => exact ⟨k + 1, by omega, by go_num, by go_num, by have := HS.out.1; rw [show ((m : Int) + (k : Int)) = ((m + k : Nat) : Int) by simp, marksI_set _ _ _ (by have := HL.out; omega)] at this; exact this, HG.out⟩
    case measure => simp [intOf]; omega
   ·obtain rfl : k = n := by omega
    go_wp2
    go_ret
    refine ⟨rfl, ?_, hgr⟩
    have := HO.out
    rw [List.drop_of_length_le (by have := HL.out; omega), List.append_nil] at this
    exact this
theorem mark_ints (v : Value) (m : Nat) (mi : Int) (l : List Int) (B : Nat) (w : World) (hmi : mi = m) (h : OwnI w B v l) (hm : m + l.length ≤ 9223372036854775807) :
  Calls Tryz.prog 33 #[v, .int .i64 mi] w fun e w' => e = .returned (.int .i64 ((m : Int) + (l.length : Int))) ∧ OwnI w' B v (marksI m l.length) ∧ w.grownBy w' v.ownBlock := by
 subst hmi
 refine (mark_ints0 v l.length m _ B w h hm).mono ?_
 rintro e w' ⟨h1, h2, h3⟩
 exact ⟨h1, by unfold OwnI; rw [marksI_length]; exact h2, h3⟩
set_option maxHeartbeats 400000 in
theorem held_ints (v : Value) (n m : Nat) (mi : Int) (w : World) (hmi : mi = m) (h : RowOf iV w v (marksI m n)) (hm : m + n ≤ 9223372036854775807) :
  Calls Tryz.prog 35 #[v, .int .i64 mi] w fun e w' => e = .returned (.int .i64 ((m : Int) + (n : Int))) ∧ w' = w := by
 subst hmi
 obtain ⟨a, c, rfl, hc, hmx, hr⟩ := h
 rw [marksI_length] at hc ⊢
 have R := Lib.hid hr
 clear hr hc hmx
 go_enter Tryz.func35, Tryz.ntmps35
 go_wp2
 go_loop [1, 5] (fun kv iv => ∃ k : Nat, k ≤ n ∧ kv = .int .i64 ((m : Int) + (k : Int)) ∧ iv = .int .i64 k) (fun _ i => n - (intOf i).toNat)
 case atStart => exact ⟨0, Nat.zero_le _, by simp, rfl⟩
 case round =>
  obtain ⟨k, hk, rfl, rfl⟩ := hrel
  by_cases hlt : k < n
  ·obtain ⟨b, o, rfl, hx⟩ := R.out k (by rw [marksI_length]; exact hlt)
   have e : (marksI m n)[k]'(by rw [marksI_length]; exact hlt) = (m : Int) + (k : Int) := by simp [marksI]
   rw [e] at hx
   unfold iV at hx
   clear e R
   go_wp2
   go_round
   case rel => exact ⟨k + 1, by omega, by go_num, by go_num⟩
   case measure => simp [intOf]; omega
  ·obtain rfl : k = n := by omega
   go_wp2
   go_ret
   exact ⟨rfl, rfl⟩
end Go.Proofs.YtlepgkkpopjgoaaGreat
namespace Go.Proofs.YtlepgkkpopjgoaaGreat
set_option maxRecDepth 100000
set_option linter.unusedVariables false
set_option linter.unusedSimpArgs false
open Go.RowKit
def fillU (n k : Nat) (F G : Nat → Int) : List Int := (List.range n).map (fun i => if i < k then F i else G i)
def fillD (n k : Nat) (F G : Nat → Int) : List Int := (List.range n).map (fun i => if k ≤ i then F i else G i)
def listF (n : Nat) (F : Nat → Int) : List Int := (List.range n).map F
theorem listF_length (n : Nat) (F : Nat → Int) : (listF n F).length = n := by simp [listF]
theorem listF_get (n : Nat) (F : Nat → Int) (i : Nat) (h : i < (listF n F).length) : (listF n F)[i]'h = F i := by simp [listF]
theorem listF_congr {n : Nat} {F G : Nat → Int} (h : ∀ i, i < n → F i = G i) : listF n F = listF n G := List.map_congr_left (fun i hi => h i (List.mem_range.1 hi))
theorem listF_take {n k : Nat} {F : Nat → Int} (h : k ≤ n) : (listF n F).take k = listF k F := by
 unfold listF; rw [← List.map_take, List.take_range, Nat.min_eq_left h]
theorem listF_succ (n : Nat) (F : Nat → Int) : listF (n + 1) F = listF n F ++ [F n] := by simp [listF, List.range_succ]
theorem listF_of (l : List Int) : listF l.length (fun i => l.getD i 0) = l := by
 apply List.ext_getElem (by rw [listF_length])
 intro i h1 h2
 rw [listF_get]
 simp [List.getD, h2]
theorem fillU_length (n k : Nat) (F G : Nat → Int) : (fillU n k F G).length = n := by simp [fillU]
theorem fillU_get (n k : Nat) (F G : Nat → Int) (i : Nat) (h : i < (fillU n k F G).length) : (fillU n k F G)[i]'h = if i < k then F i else G i := by simp [fillU]
theorem fillU_zero (n : Nat) (F G : Nat → Int) : fillU n 0 F G = listF n G := by simp [fillU, listF]
theorem fillU_full (n : Nat) (F G : Nat → Int) : fillU n n F G = listF n F := listF_congr (fun i hi => by rw [if_pos hi])
theorem fillU_set {n k : Nat} {F G : Nat → Int} (h : k < n) : (fillU n k F G).set k (F k) = fillU n (k + 1) F G := by
 apply List.ext_getElem (by simp [fillU_length])
 intro i h1 h2
 rw [List.getElem_set, fillU_get, fillU_get]
 by_cases e : k = i
 ·subst e; rw [if_pos rfl, if_pos (by omega)]
 ·rw [if_neg e]
  by_cases h3 : i < k
  ·rw [if_pos h3, if_pos (by omega)]
  ·rw [if_neg h3, if_neg (by omega)]
theorem fillD_length (n k : Nat) (F G : Nat → Int) : (fillD n k F G).length = n := by simp [fillD]
theorem fillD_get (n k : Nat) (F G : Nat → Int) (i : Nat) (h : i < (fillD n k F G).length) : (fillD n k F G)[i]'h = if k ≤ i then F i else G i := by simp [fillD]
theorem fillD_none (n : Nat) (F G : Nat → Int) : fillD n n F G = listF n G := listF_congr (fun i hi => by rw [if_neg (by omega)])
theorem fillD_full (n : Nat) (F G : Nat → Int) : fillD n 0 F G = listF n F := listF_congr (fun i hi => by rw [if_pos (by omega)])
theorem fillD_set {n k : Nat} {F G : Nat → Int} (h : k < n) : (fillD n (k + 1) F G).set k (F k) = fillD n k F G := by
 apply List.ext_getElem (by simp [fillD_length])
 intro i h1 h2
 rw [List.getElem_set, fillD_get, fillD_get]
 by_cases e : k = i
 ·subst e; rw [if_pos rfl, if_pos (by omega)]
 ·rw [if_neg e]
  by_cases h3 : k ≤ i
  ·rw [if_pos (by omega), if_pos h3]
  ·rw [if_neg (by omega), if_neg h3]
def limI (x : Nat) : List Int := listF (nlen x) (fun i => (dig x i : Int))
theorem limI_length (x : Nat) : (limI x).length = nlen x := listF_length _ _
theorem limI_get (x i : Nat) (h : i < (limI x).length) : (limI x)[i]'h = (dig x i : Int) := listF_get _ _ _ _
theorem limI_zero : limI 0 = [] := by unfold limI; rw [nlen_zero]; rfl
theorem setCell_grown (w : World) (g j : Nat) (x : Value) : w.grownBy (w.setCell ⟨g, j, none⟩ x) (some g) :=
 ⟨rfl, rfl, rfl, by simp [World.setCell], fun k _ hk => Below.heap_setCell _ _ _ _ (fun e => hk (by rw [e]))⟩
section
variable {w : World} {B g n c : Nat} {l : List Int}
theorem OwnI.len {a : Option Addr} (h : OwnI w B (.slice a n c) l) : l.length = n := by
 rcases h.2 with ⟨hv, hn⟩ | ⟨g, cap, cur, hv, _⟩
 ·injection hv with e1 e2 e3
  have := h.1
  have : l = [] := by simpa using hn
  subst this; exact e2.symm
 ·injection hv with e1 e2 e3; exact e2.symm
theorem OwnI.cell (h : OwnI w B (.slice (some ⟨g, 0, none⟩) n c) l) (k : Nat) (hk : k < l.length) : w.cell? ⟨g, k, none⟩ = some (.int .i64 (l[k]'hk)) := by
 have e := h.len
 subst e
 have := World.ownsRow.cellAt (w := w) (base := B) (e := 3) (size := 1) (g := g) (n := l.length) (cap := c) (xs := l.map iV) h k (by omega)
 rw [this]; simp [hk, iV]
theorem OwnI.frozen (h : OwnI w B (.slice (some ⟨g, 0, none⟩) n c) l) (k : Nat) : w.frozen? ⟨g, k, none⟩ = false := by
 have e := h.len
 subst e
 exact World.ownsRow.frozenAt h k
theorem OwnI.set (h : OwnI w B (.slice (some ⟨g, 0, none⟩) n c) l) (k : Nat) (x : Int) : OwnI (w.setCell ⟨g, k, none⟩ (.int .i64 x)) B (.slice (some ⟨g, 0, none⟩) n c) (l.set k x) := by
 have e := h.len
 subst e
 have := (World.ownsRow.stored h k (.int .i64 x)).1
 unfold OwnI
 rw [List.length_set, List.map_set]
 exact this
theorem OwnI.alloc {v : Value} (h : OwnI w B v l) (o : Obj) : OwnI (w.alloc o) B v l := World.ownsRow.alloc h o
theorem OwnI.cap_le {a : Option Addr} (h : OwnI w B (.slice a n c) l) : n ≤ c ∧ c ≤ maxLen := by
 rcases h.2 with ⟨hv, hn⟩ | ⟨g, cap, cur, hv, _, _, h1, h2, _⟩
 ·injection hv with e1 e2 e3; subst e2 e3; exact ⟨Nat.le_refl _, by unfold maxLen; omega⟩
 ·injection hv with e1 e2 e3; subst e2 e3; exact ⟨h1, h2⟩
end
theorem OwnI.form {w : World} {B : Nat} {v : Value} {l : List Int} (h : OwnI w B v l) : (v = .slice none 0 0 ∧ l = []) ∨ ∃ g c, v = .slice (some ⟨g, 0, none⟩) l.length c ∧ B ≤ g ∧ g < w.heap.size := by
 rcases h.2 with ⟨hv, hn⟩ | ⟨g, cap, cur, hv, hB, hg, _⟩
 ·exact .inl ⟨hv, by simpa using hn⟩
 ·exact .inr ⟨g, cap, hv, hB, (Array.getElem?_eq_some_iff.1 hg).1⟩
def zeroObj (n : Nat) : Obj := .cells (madeCells #[.int .i64 0] n) 3
theorem make_intsT (T : TypeId) (hT : Tryz.prog.underlying T = some (.slice 3)) (n : Nat) (hn : n ≤ 1099511627776) (w : World) : (Instr.makeSlice T (.int .i64 (n : Int)) (.int .i64 (n : Int))).run Tryz.prog w = .ok (.slice (some ⟨w.heap.size, 0, none⟩) n n) (w.alloc (zeroObj n)) := by
 obtain ⟨i0, hi, hz0, hz1, hz2⟩ := info_parts info_int
 have := run_make (P := Tryz.prog) w T 3 i0 (.int .i64 0) hT hi hz0 .i64 .i64 n n (by omega) (Int.le_refl _) (by rw [hz2]; omega) (by omega)
 rw [this, hz1]
 simp [zeroObj, Value.cells]
theorem make_ints (n : Nat) (hn : n ≤ 1099511627776) (w : World) : (Instr.makeSlice 30 (.int .i64 (n : Int)) (.int .i64 (n : Int))).run Tryz.prog w = .ok (.slice (some ⟨w.heap.size, 0, none⟩) n n) (w.alloc (zeroObj n)) := make_intsT _ Tryz.underlying30 n hn w
theorem make_limbs (n : Nat) (hn : n ≤ 1099511627776) (w : World) : (Instr.makeSlice 120 (.int .i64 (n : Int)) (.int .i64 (n : Int))).run Tryz.prog w = .ok (.slice (some ⟨w.heap.size, 0, none⟩) n n) (w.alloc (zeroObj n)) := make_intsT _ Tryz.underlying120 n hn w
theorem zeroObj_own (w : World) (B n : Nat) (hB : B ≤ w.heap.size) (hn : n ≤ 1099511627776) : OwnI (w.alloc (zeroObj n)) B (.slice (some ⟨w.heap.size, 0, none⟩) n n) (listF n (fun _ => 0)) := by
 have h := World.ownsRow_lit (base := B) (e := 3) (size := 1) w (madeCells #[.int .i64 0] n) n hB (by unfold maxLen; omega) (by rw [size_madeCells]; omega)
 unfold OwnI
 rw [listF_length]
 have e : (listF n (fun _ => 0)).map iV = (madeCells #[.int .i64 0] n).toList := by
  rw [toList_madeCells_one]
  simp [listF, iV, Function.comp_def, List.map_const']
 rw [e]
 exact h
set_option maxHeartbeats 400000 in
theorem to_ints (v : Value) (zs : List Int) (w : World) (h : RowOf iV w v zs) (hn : zs.length ≤ 1099511627776) :
  Calls Tryz.prog 134 #[v] w fun e w' => ∃ v', e = .returned v' ∧ OwnI w' w.heap.size v' zs ∧ Below w.heap.size w w' := by
 have H := Lib.hid h
 obtain ⟨a, cap, rfl, hc, hm, hr⟩ := h
 unfold maxLen at hm
 have R := Lib.hid hr
 clear hr
 obtain ⟨n, hnn⟩ : ∃ n, zs.length = n := ⟨_, rfl⟩
 rw [hnn] at hc hn H ⊢
 have HN := Lib.hid hnn
 clear hnn
 have hmk := make_ints n hn
 go_enter Tryz.func134, Tryz.ntmps134
 go_wp2
 clear hmk
 have HO := Lib.hid (zeroObj_own w w.heap.size n (Nat.le_refl _) hn)
 have HB := Lib.hid ((Below.refl w.heap.size w).alloc (Nat.le_refl _) (zeroObj n))
 generalize w.alloc (zeroObj n) = W1 at HO HB ⊢
 obtain ⟨g, hg⟩ : ∃ g, w.heap.size = g := ⟨_, rfl⟩
 rw [hg] at HO HB ⊢
 have HG := Lib.hid hg
 clear hg
 go_loopw [4] (fun iv wr => ∃ k : Nat, k ≤ n ∧ iv = .int .i64 k ∧ Hid (OwnI wr g (.slice (some ⟨g, 0, none⟩) n n) (fillU n k (fun i => zs.getD i 0) (fun _ => 0))) ∧ Hid (Below g w wr)) (fun iv _ => n - (intOf iv).toNat)
 case atStart => exact ⟨0, Nat.zero_le _, rfl, by rw [fillU_zero]; exact HO, HB⟩
 case round =>
  obtain ⟨k, hk, rfl, HK, HBk⟩ := hrel
  by_cases hlt : k < n
  ·obtain ⟨b, o, rfl, hx⟩ := R.out k (by rw [HN.out]; exact hlt)
   have hxb := World.block_lt_of_cell? w _ hx
   have hx1 : wr.cell? ⟨b, o + k, none⟩ = some (iV (zs[k]'(by rw [HN.out]; exact hlt))) := (HBk.out.cell (p := ⟨b, o + k, none⟩) (by rw [← HG.out]; simpa using hxb)).trans hx
   obtain ⟨s, hs⟩ : ∃ s, zs[k]'(by rw [HN.out]; exact hlt) = s := ⟨_, rfl⟩
   rw [hs] at hx1
   unfold iV at hx1
   have hsF : Hid ((fun i => zs.getD i 0) k = s) := by
    unfold Hid
    show zs.getD k 0 = s
    rw [← hs]; simp [List.getD, HN.out, hlt]
   have hcl := HK.out.cell k (by rw [fillU_length]; exact hlt)
   have hfz := HK.out.frozen k
   have HS := Lib.hid (HK.out.set k s)
   have HB2 := Lib.hid (HBk.out.setCell (p := ⟨g, k, none⟩) (Nat.le_refl _) (.int .i64 s))
   clear hx hxb hs R
   go_wp2
   go_roundw
   case rel => exact ⟨k + 1, by omega, by go_num, by have h := HS.out; rw [← hsF.out, fillU_set hlt] at h; rw [← hsF.out]; exact h, HB2⟩
   case measure => simp [intOf]; omega
  ·obtain rfl : k = n := by omega
   go_wp2
   go_ret
   refine ⟨_, rfl, ?_, by rw [HG.out]; exact HBk.out⟩
   rw [HG.out]
   have h := HK.out
   rw [fillU_full] at h
   have e : listF k (fun i => zs.getD i 0) = zs := by have := listF_of zs; rw [HN.out] at this; exact this
   rw [e] at h
   exact h
end Go.Proofs.YtlepgkkpopjgoaaGreat
namespace Go.Proofs.YtlepgkkpopjgoaaGreat
set_option maxRecDepth 100000
set_option linter.unusedVariables false
set_option linter.unusedSimpArgs false
open Go.RowKit
theorem getD_at {l : List Int} {i : Nat} (h : i < l.length) : l.getD i 0 = l[i]'h := by
 rw [List.getD_eq_getElem?_getD, List.getElem?_eq_getElem h]; rfl
def limbB (x : Int) : Bool := decide (0 ≤ x) && decide (x < 1000000000)
def okB (zs : List Int) : Bool := decide (zs.length ≤ 60) && zs.all limbB && (decide (zs.length = 0) || decide (zs.getD (zs.length - 1) 0 ≠ 0))
def InTo (zs : List Int) (k : Nat) : Prop := ∀ j (h : j < zs.length), j < k → 0 ≤ zs[j]'h ∧ zs[j]'h < 1000000000
theorem inTo_zero (zs : List Int) : InTo zs 0 := fun _ _ h => absurd h (by omega)
theorem inTo_succ {zs : List Int} {k : Nat} (hk : k < zs.length) (h : InTo zs k) (h1 : 0 ≤ zs[k]'hk) (h2 : zs[k]'hk < 1000000000) : InTo zs (k + 1) := by
 intro j hj hjk
 by_cases e : j = k
 ·subst e; exact ⟨h1, h2⟩
 ·exact h j hj (by omega)
theorem okB_elem {zs : List Int} {k : Nat} (hk : k < zs.length) (h : ¬ (0 ≤ zs[k]'hk ∧ zs[k]'hk < 1000000000)) : okB zs = false := by
 unfold okB
 rw [Bool.and_eq_false_iff]; left
 rw [Bool.and_eq_false_iff]; right
 rw [List.all_eq_false]
 exact ⟨_, List.getElem_mem hk, by unfold limbB; simpa using h⟩
theorem okB_long {zs : List Int} (h : 60 < zs.length) : okB zs = false := by
 unfold okB
 rw [decide_eq_false (by omega)]; simp
theorem okB_top {zs : List Int} (h0 : 0 < zs.length) (h : zs[zs.length - 1]'(by omega) = 0) : okB zs = false := by
 unfold okB
 have e : zs.getD (zs.length - 1) 0 = 0 := by rw [getD_at (by omega), h]
 rw [e, decide_eq_false (show ¬ zs.length = 0 by omega)]; simp
theorem inTo_all {zs : List Int} (h : InTo zs zs.length) : zs.all limbB = true := by
 rw [List.all_eq_true]
 intro c hc
 obtain ⟨j, hj, rfl⟩ := List.getElem_of_mem hc
 have := h j hj hj
 unfold limbB; simpa using this
theorem okB_nil {zs : List Int} (h0 : zs.length = 0) : okB zs = true := by
 obtain rfl : zs = [] := List.eq_nil_of_length_eq_zero h0
 rfl
theorem okB_yes {zs : List Int} (h : InTo zs zs.length) (hl : zs.length ≤ 60) (h0 : 0 < zs.length) (ht : zs[zs.length - 1]'(by omega) ≠ 0) : okB zs = true := by
 unfold okB
 have e : zs.getD (zs.length - 1) 0 = zs[zs.length - 1]'(by omega) := getD_at (by omega)
 rw [inTo_all h, decide_eq_true hl, e, decide_eq_true ht]; simp
def natI (zs : List Int) : Nat := val (zs.map Int.toNat)
theorem okB_lim {zs : List Int} (h : okB zs = true) : zs = limI (natI zs) ∧ natI zs < pw 60 := by
 unfold okB at h
 rw [Bool.and_eq_true, Bool.and_eq_true, decide_eq_true_eq, List.all_eq_true, Bool.or_eq_true, decide_eq_true_eq, decide_eq_true_eq] at h
 obtain ⟨⟨h1, h2⟩, h3⟩ := h
 have hz : ∀ x ∈ zs, 0 ≤ x ∧ x < 1000000000 := fun x hx => by have := h2 x hx; unfold limbB at this; simpa using this
 have ha : AllLimb (zs.map Int.toNat) := by
  intro y hy
  obtain ⟨x, hx, rfl⟩ := List.mem_map.1 hy
  have := hz x hx; omega
 have hlim : lim (natI zs) = zs.map Int.toNat := by
  refine lim_val _ ha (fun hne => ?_)
  have hn : 0 < zs.length := by simpa using hne
  rcases h3 with h3 | h3
  ·omega
  ·have e : zs.getD (zs.length - 1) 0 = zs[zs.length - 1]'(by omega) := getD_at (by omega)
   rw [e] at h3
   have := hz _ (List.getElem_mem (show zs.length - 1 < zs.length by omega))
   simp only [List.length_map, List.getElem_map]
   omega
 have hnl : nlen (natI zs) = zs.length := by have := congrArg List.length hlim; rw [lim_length] at this; simpa using this
 constructor
 ·apply List.ext_getElem (by rw [limI_length, hnl])
  intro i i1 i2
  rw [limI_get]
  have := hz _ (List.getElem_mem i1)
  have e : (lim (natI zs))[i]'(by rw [lim_length, hnl]; exact i1) = (zs.map Int.toNat)[i]'(by simpa using i1) := by simp only [hlim]
  rw [lim_get] at e
  rw [e, List.getElem_map]
  omega
 ·rw [← nlen_le_iff]; omega
theorem okB_limI {x : Nat} (h : x < pw 60) : okB (limI x) = true := by
 by_cases h0 : x = 0
 ·subst h0; rw [limI_zero]; rfl
 ·have hp : 0 < nlen x := (nlen_pos_iff x).2 (by omega)
  refine okB_yes (fun j hj _ => ?_) ?_ (by rw [limI_length]; exact hp) ?_
  ·rw [limI_get]; have := dig_lt x j; omega
  ·rw [limI_length, nlen_le_iff]; exact h
  ·rw [limI_get, limI_length]; have := dig_top (x := x) (by omega); omega
theorem natI_limI (x : Nat) : natI (limI x) = x := by
 have e : (limI x).map Int.toNat = lim x := by
  apply List.ext_getElem (by rw [List.length_map, limI_length, lim_length])
  intro i h1 h2
  rw [List.getElem_map, limI_get, lim_get]; rfl
 unfold natI
 rw [e]
 have h1 : AllLimb (lim x) := by
  intro y hy
  obtain ⟨i, hi, rfl⟩ := List.getElem_of_mem hy
  rw [lim_get]; exact dig_lt _ _
 have h2 := val_lt _ h1
 rw [lim_length] at h2
 have h3 : ∀ i, i < nlen x → dig (val (lim x)) i = dig x i := fun i hi => by
  rw [dig_val _ i (by rw [lim_length]; exact hi) h1, lim_get]
 have h4 := lt_pw_nlen x
 have key : ∀ k, k ≤ nlen x → val (lim x) / pw (nlen x - k) = x / pw (nlen x - k) := by
  intro k
  induction k with
  | zero => intro _; rw [Nat.sub_zero, Nat.div_eq_of_lt h2, Nat.div_eq_of_lt h4]
  | succ k ih =>
   intro hk
   have ih := ih (by omega)
   rw [show nlen x - k = (nlen x - (k + 1)) + 1 by omega] at ih
   exact cmp_up ih (h3 _ (by omega))
 have := key (nlen x) (Nat.le_refl _)
 rw [Nat.sub_self] at this
 exact cmp_end this
set_option maxHeartbeats 400000 in
theorem spec_in (x lo hi : Int) (w : World) :
  Calls Tryz.prog 119 #[.int .i64 x, .int .i64 lo, .int .i64 hi] w fun e w' => e = .returned (.bool (decide (lo ≤ x) && decide (x ≤ hi))) ∧ w' = w := by
 by_cases h : lo ≤ x
 ·go_enter Tryz.func119, Tryz.ntmps119
  go_wp2
  go_ret
  exact ⟨ret_bool (by simp [h]), rfl⟩
 ·go_enter Tryz.func119, Tryz.ntmps119
  go_wp2
  go_ret
  exact ⟨ret_bool (by rw [decide_eq_false (show ¬ lo ≤ x by omega)]; rfl), rfl⟩
theorem last_cell {w : World} {b o : Nat} {a : Option Addr} {zs : List Int} {n : Nat} (hN : zs.length = n) (hn : 0 < n) (ha : a = some ⟨b, o, none⟩)
  (hr : ∀ i (h : i < zs.length), ∃ b o, a = some ⟨b, o, none⟩ ∧ w.cell? ⟨b, o + i, none⟩ = some (iV (zs[i]'h))) : w.cell? ⟨b, o + (n - 1), none⟩ = some (.int .i64 (zs[n - 1]'(by omega))) := by
 obtain ⟨b', o', e, hx⟩ := hr (n - 1) (by omega)
 rw [ha] at e
 injection e with e
 injection e with e1 e2
 subst e1 e2
 exact hx
set_option maxHeartbeats 400000 in
theorem spec_natOk (v : Value) (zs : List Int) (w : World) (h : RowOf iV w v zs) :
  Calls Tryz.prog 151 #[v] w fun e w' => e = .returned (.bool (okB zs)) ∧ w' = w := by
 obtain ⟨a, cap, rfl, hc, hm, hr⟩ := h
 unfold maxLen at hm
 have R := Lib.hid hr
 clear hr
 obtain ⟨n, hnn⟩ : ∃ n, zs.length = n := ⟨_, rfl⟩
 rw [hnn] at hc ⊢
 have HN := Lib.hid hnn
 clear hnn
 go_enter Tryz.func151, Tryz.ntmps151
 go_wp2
 go_loop [7] (fun iv => ∃ k : Nat, k ≤ n ∧ iv = .int .i64 k ∧ Hid (InTo zs k)) (fun iv => n - (intOf iv).toNat)
 case atStart => exact ⟨0, Nat.zero_le _, rfl, inTo_zero zs⟩
 case round =>
  obtain ⟨k, hk, rfl, HK⟩ := hrel
  by_cases hlt : k < n
  ·obtain ⟨b, o, rfl, hx⟩ := R.out k (by rw [HN.out]; exact hlt)
   have H1 := Lib.hid (fun h => okB_elem (zs := zs) (k := k) (by rw [HN.out]; exact hlt) h)
   have H2 := Lib.hid (fun h1 h2 => inTo_succ (zs := zs) (k := k) (by rw [HN.out]; exact hlt) HK.out h1 h2)
   obtain ⟨s, hs⟩ : ∃ s, zs[k]'(by rw [HN.out]; exact hlt) = s := ⟨_, rfl⟩
   rw [hs] at hx H1 H2
   unfold iV at hx
   clear hs R
   by_cases hin : 0 ≤ s ∧ s < 1000000000
   ·have hb : (decide (0 ≤ s) && decide (s ≤ 999999999)) = true := by simp; omega
    go_wp2_with (go_at_call 119; refine (spec_in _ _ _ _).mono ?_; rw [hb]; rintro e w' ⟨rfl, rfl⟩)
    go_round
    case rel => exact ⟨k + 1, by omega, by go_num, H2.out hin.1 hin.2⟩
    case measure => simp [intOf]; omega
   ·have hb : (decide (0 ≤ s) && decide (s ≤ 999999999)) = false := by simp; omega
    have HI := Lib.hid hin
    clear hin
    go_wp2_with (go_at_call 119; refine (spec_in _ _ _ _).mono ?_; rw [hb]; rintro e w' ⟨rfl, rfl⟩)
    go_ret
    exact ⟨ret_bool (by rw [H1.out HI.out]), rfl⟩
  ·obtain rfl : k = n := by omega
   by_cases hl : k ≤ 60
   ·by_cases h0 : k = 0
    ·have H := Lib.hid (okB_nil (zs := zs) (by rw [HN.out]; exact h0))
     subst h0
     go_wp2
     go_ret
     exact ⟨ret_bool (by rw [H.out]), rfl⟩
    ·have hp : 0 < k := by omega
     obtain ⟨b, o, ha, _⟩ := R.out 0 (by rw [HN.out]; exact hp)
     have hx := last_cell HN.out hp ha R.out
     subst ha
     obtain ⟨s, hs⟩ : ∃ s, zs[k - 1]'(by rw [HN.out]; omega) = s := ⟨_, rfl⟩
     rw [hs] at hx
     have HS := Lib.hid hs
     have e1 : (((k : Int) - 1)).toNat = k - 1 := by omega
     have hk0 : ((k : Int) == 0) = false := by simp; omega
     clear hs R
     by_cases hs0 : s = 0
     ·have H := Lib.hid (okB_top (zs := zs) (by rw [HN.out]; exact hp) (by rw [← hs0, ← HS.out]; simp only [HN.out]))
      subst hs0
      go_wp2
      go_ret
      exact ⟨ret_bool (by rw [H.out]), rfl⟩
     ·have H := Lib.hid (okB_yes (zs := zs) (by rw [HN.out]; exact HK.out) (by rw [HN.out]; exact hl) (by rw [HN.out]; exact hp) (by have := HS.out; simp only [HN.out]; rw [this]; exact hs0))
      have hb : (s != 0) = true := by simpa using hs0
      clear hs0
      go_wp2
      go_ret
      exact ⟨ret_bool (by rw [H.out]), rfl⟩
   ·have H := Lib.hid (okB_long (zs := zs) (by rw [HN.out]; omega))
    go_wp2
    go_ret
    exact ⟨ret_bool (by rw [H.out]), rfl⟩
end Go.Proofs.YtlepgkkpopjgoaaGreat
namespace Go.Proofs.YtlepgkkpopjgoaaGreat
set_option maxRecDepth 100000
set_option linter.unusedVariables false
set_option linter.unusedSimpArgs false
open Go.RowKit Go.WideShapes Go.ChangeShapes
theorem ints_in {H : Type} {enc : TypeId × Value → H} {W : World} {a : Option Addr} {l c : Nat} {d : DataW H} {p : List MemPlace}
  (h : DataW.Trod enc Tryz.prog W 0 (fun _ => true) true 30 (Value.slice a l c) d p) : ∃ zs, RowOf iV W (.slice a l c) zs ∧ True := by
 obtain ⟨fuel, hf⟩ := h
 rcases open_ints Tryz.underlying30 Tryz.underlying3 (by kernel_rfl) hf with ⟨hcs, _⟩ | ⟨x, l', c', zs, hcs, _, hl, hm, hz, _, hcell, hwz⟩
 ·simp [Value.cells] at hcs
  obtain ⟨rfl, rfl, rfl⟩ := hcs
  exact ⟨[], ⟨none, 0, rfl, by simp, by unfold maxLen; omega, fun i hi => by simp at hi⟩, trivial⟩
 ·simp [Value.cells] at hcs
  obtain ⟨rfl, rfl, rfl⟩ := hcs
  have hz' : zs.length = c := by simpa using hz
  have hlt : (zs.take l).length = l := by simp; omega
  refine ⟨zs.take l, ⟨some x, c, by rw [hlt], by omega, hm, fun i hi => ?_⟩, trivial⟩
  have hi' : i < zs.length := by omega
  obtain ⟨b, o, spot⟩ := x
  have h0 := hcell 0 (by omega)
  have hspot : spot = none := by simpa [Addr.add] using World.cell?_spot h0
  subst hspot
  refine ⟨b, o, rfl, ?_⟩
  have hc := hcell i hi'
  rw [add_plain] at hc
  rw [hc, getD_at hi']
  simp [iV]
set_option maxHeartbeats 400000 in
theorem impl_natOk (v : Value) (zs : List Int) (w : World) (h : RowOf iV w v zs) :
  Calls Tryz.prog 108 #[v] w fun e w' => e = .returned (.bool (okB zs)) ∧ w' = w := by
 obtain ⟨a, cap, rfl, hc, hm, hr⟩ := h
 unfold maxLen at hm
 have R := Lib.hid hr
 clear hr
 obtain ⟨n, hnn⟩ : ∃ n, zs.length = n := ⟨_, rfl⟩
 rw [hnn] at hc ⊢
 have HN := Lib.hid hnn
 clear hnn
 by_cases hl : n ≤ 60
 ·by_cases h0 : n = 0
  ·have H := Lib.hid (okB_nil (zs := zs) (by rw [HN.out]; exact h0))
   subst h0
   go_enter Tryz.func108, Tryz.ntmps108
   go_wp2
   go_loop [24] (fun iv => iv = .int .i64 0) (fun iv => 0)
   case atStart => rfl
   case round =>
    subst hrel
    go_wp2
    go_ret
    exact ⟨ret_bool (by rw [H.out]), rfl⟩
  ·have hp : 0 < n := by omega
   obtain ⟨b, o, ha, _⟩ := R.out 0 (by rw [HN.out]; exact hp)
   have hx := last_cell HN.out hp ha R.out
   subst ha
   obtain ⟨s, hs⟩ : ∃ s, zs[n - 1]'(by rw [HN.out]; omega) = s := ⟨_, rfl⟩
   rw [hs] at hx
   have HS := Lib.hid hs
   have e1 : (((n : Int) - 1)).toNat = n - 1 := by omega
   clear hs
   by_cases hs0 : s = 0
   ·have H := Lib.hid (okB_top (zs := zs) (by rw [HN.out]; exact hp) (by rw [← hs0, ← HS.out]; simp only [HN.out]))
    subst hs0
    go_enter Tryz.func108, Tryz.ntmps108
    go_wp2
    go_ret
    exact ⟨ret_bool (by rw [H.out]), rfl⟩
   ·have H := Lib.hid (fun h => okB_yes (zs := zs) h (by rw [HN.out]; exact hl) (by rw [HN.out]; exact hp) (by have := HS.out; simp only [HN.out]; rw [this]; exact hs0))
    have hb : (s == 0) = false := by simpa using hs0
    clear hs0
    go_enter Tryz.func108, Tryz.ntmps108
    go_wp2
    clear hx e1 hb
    go_loop [24] (fun iv => ∃ k : Nat, k ≤ n ∧ iv = .int .i64 k ∧ Hid (InTo zs k)) (fun iv => n - (intOf iv).toNat)
    case atStart => exact ⟨0, Nat.zero_le _, rfl, inTo_zero zs⟩
    case round =>
     obtain ⟨k, hk, rfl, HK⟩ := hrel
     by_cases hlt : k < n
     ·obtain ⟨b', o', ha', hx⟩ := R.out k (by rw [HN.out]; exact hlt)
      injection ha' with ha'
      injection ha' with e1 e2
      subst e1 e2
      have H1 := Lib.hid (fun h => okB_elem (zs := zs) (k := k) (by rw [HN.out]; exact hlt) h)
      have H2 := Lib.hid (fun h1 h2 => inTo_succ (zs := zs) (k := k) (by rw [HN.out]; exact hlt) HK.out h1 h2)
      obtain ⟨s, hs⟩ : ∃ s, zs[k]'(by rw [HN.out]; exact hlt) = s := ⟨_, rfl⟩
      rw [hs] at hx H1 H2
      unfold iV at hx
      clear hs
      by_cases hn0 : 0 ≤ s
      ·by_cases hn1 : s < 1000000000
       ·go_wp2
        go_round
        case rel => exact ⟨k + 1, by omega, by go_num, H2.out hn0 hn1⟩
        case measure => simp [intOf]; omega
       ·have hF := Lib.hid (H1.out (by omega))
        go_wp2
        go_ret
        exact ⟨ret_bool (by rw [hF.out]), rfl⟩
      ·have hF := Lib.hid (H1.out (by omega))
       go_wp2
       go_ret
       exact ⟨ret_bool (by rw [hF.out]), rfl⟩
     ·obtain rfl : k = n := by omega
      have hF := Lib.hid (H.out (by rw [HN.out]; exact HK.out))
      go_wp2
      go_ret
      exact ⟨ret_bool (by rw [hF.out]), rfl⟩
 ·have H := Lib.hid (okB_long (zs := zs) (by rw [HN.out]; omega))
  go_enter Tryz.func108, Tryz.ntmps108
  go_wp2
  go_ret
  exact ⟨ret_bool (by rw [H.out]), rfl⟩
end Go.Proofs.YtlepgkkpopjgoaaGreat
namespace Go.Proofs.YtlepgkkpopjgoaaGreat
set_option maxRecDepth 100000
set_option linter.unusedVariables false
set_option linter.unusedSimpArgs false
open Go.RowKit
theorem eq_intsB (v1 v2 : Value) (ss : List Int) (w : World) (h1 : RowOf iV w v1 ss) (h2 : RowOf iV w v2 ss) :
  Calls Tryz.prog 31 #[v1, v2] w fun e w' => e = .returned (.bool true) ∧ Below w.heap.size w w' :=
 (eq_ints v1 v2 ss w h1 h2).mono fun _ _ ⟨he, q, hq⟩ => ⟨he, by rw [hq]; exact below_drewN (Below.refl _ _) q⟩
theorem held_intsB (v : Value) (n m : Nat) (mi : Int) (w : World) (hmi : mi = m) (h : RowOf iV w v (marksI m n)) (hm : m + n ≤ 9223372036854775807) :
  Calls Tryz.prog 35 #[v, .int .i64 mi] w fun e w' => e = .returned (.int .i64 ((m : Int) + (n : Int))) ∧ Below w.heap.size w w' :=
 (held_ints v n m mi w hmi h hm).mono fun _ _ ⟨he, hw⟩ => ⟨he, by rw [hw]; exact Below.refl _ _⟩
theorem OwnI.lt {w : World} {B : Nat} {v : Value} {l : List Int} (h : OwnI w B v l) : ∀ g, v.ownBlock = some g → B ≤ g ∧ g < w.heap.size := World.ownsRow.lt h
theorem grownBy_size {w w' : World} {row : Option Nat} (h : w.grownBy w' row) : w.heap.size ≤ w'.heap.size := h.size
end Go.Proofs.YtlepgkkpopjgoaaGreat
namespace Go.Proofs.YtlepgkkpopjgoaaGreat
set_option maxRecDepth 100000
set_option linter.unusedVariables false
set_option linter.unusedSimpArgs false
open Go.RowKit
theorem append_int {ops : Array Oper} {rest : List Oper} {o : Oper} {a : Act} {Q : Exit → Act → World → Prop} {w : World} (hgd : o.guard = none) (s x : Operand) (T : TypeId) (hT : Tryz.prog.underlying T = some (.slice 3))
  (ho : o.op = .call { callee := .builtin .append, args := #[s, x], argTypes := #[T, T] })
  (B : Nat) (v : Value) (l : List Int) (u : Int) (ad : Addr) (hs : a.eval s = v) (hown : OwnI w B v l) (hx : a.eval x = .slice (some ad) 1 1)
  (hc : ∀ j y, [Value.int .i64 u][j]? = some y → w.cell? (ad.add j) = some y) (hn : l.length ≤ 1099511627776) (hB : B ≤ w.heap.size)
  (h : ∀ v' w', OwnI w' B v' (l ++ [u]) → w.grownBy w' v.ownBlock → wpList Tryz.prog ops Q rest (a.put o.dst v') w') : wpList Tryz.prog ops Q (o :: rest) a w := by
 obtain ⟨i0, hi, hz0, hz1, hz2⟩ := info_parts info_int
 refine wpList_append_own w hgd s x T ho B 3 i0 (.int .i64 0) 1 8 hT hi hz0 hz1 hz2 rfl (by decide) v l.length (l.map iV) hs hown ad 1 1 [.int .i64 u] hx rfl hc (by simp [Value.oneCell']) (by unfold maxLen; omega) (by omega) hB ?_
 intro v' w' h1 h2 _
 refine h v' w' ?_ h2
 unfold OwnI
 simpa [iV] using h1
theorem OwnI.lit0 (w : World) : OwnI (w.alloc (.cells #[] 3)) w.heap.size (.slice (some ⟨w.heap.size, 0, none⟩) 0 0) [] := World.ownsRow_lit (e := 3) (size := 1) w #[] 0 (Nat.le_refl _) (by unfold maxLen; omega) (by simp)
theorem natOf_next {N k : Nat} (h : 0 < N / pw k) : k + 1 ≤ nlen N := by
 have h1 : 1 * pw k ≤ N := (Nat.le_div_iff_mul_le (pw_pos k)).1 h
 rw [Nat.one_mul] at h1
 have := nlen_le_iff k N
 omega
theorem natOf_end {N k : Nat} (hk : k ≤ nlen N) (h : N / pw k = 0) : k = nlen N := by
 have h1 : N < pw k := by
  rcases Nat.div_eq_zero_iff.1 h with h | h
  ·have := pw_pos k; omega
  ·exact h
 have := (nlen_le_iff k N).2 h1
 omega
set_option maxHeartbeats 400000 in
theorem spec_natOf_nat (N : Nat) (w : World) (hN : N ≤ 9223372036854775807) :
  Calls Tryz.prog 156 #[.int .i64 N] w fun e w' => ∃ v, e = .returned v ∧ OwnI w' w.heap.size v (limI N) ∧ Below w.heap.size w w' := by
 have HL := Lib.hid (show nlen N ≤ 3 by rw [nlen_le_iff]; simp only [pw]; omega)
 go_enter Tryz.func156, Tryz.ntmps156
 go_wp2
 go_loopw [0, 3] (fun nv ov wr => ∃ (k m : Nat), k ≤ nlen N ∧ m ≤ N ∧ nv = .int .i64 m ∧ Hid (m = N / pw k) ∧ Hid (OwnI wr w.heap.size ov (listF k (fun i => (dig N i : Int)))) ∧ Below w.heap.size w wr) (fun nv _ _ => (intOf nv).toNat)
 case atStart => exact ⟨0, N, Nat.zero_le _, Nat.le_refl _, rfl, by unfold Hid; rw [pw_zero, Nat.div_one], World.ownsRow_lit w #[] 0 (Nat.le_refl _) (by unfold maxLen; omega) (by simp), (Below.refl _ w).alloc (Nat.le_refl _) _⟩
 case round =>
  obtain ⟨k, m, hk, hm, rfl, HM, HO, hb⟩ := hrel
  obtain ⟨v, rfl⟩ : ∃ v, v = u3 := ⟨_, rfl⟩
  by_cases hp : 0 < m
  ·have H1 := Lib.hid (natOf_next (N := N) (k := k) (by rw [← HM.out]; exact hp))
   have HD := Lib.hid (show ((m : Int) % 1000000000) = (dig N k : Int) by rw [HM.out]; unfold dig; simp)
   have hln : (listF k (fun i => (dig N i : Int))).length ≤ 1099511627776 := by rw [listF_length]; have := HL.out; omega
   have hc2 : ∀ o, w.heap.size ≤ (wr.alloc o).heap.size := fun o => by have := hb.size; simp; omega
   go_wp2_with (at_builtin; refine append_int rfl _ _ 30 Tryz.underlying30 rfl w.heap.size _ _ _ ⟨wr.heap.size, 0, none⟩ rfl (HO.out.alloc _) rfl (cell_one_new _ _ _) hln (hc2 _) ?_; intro v' w1 h1 hg1)
   go_roundw
   case rel => exact ⟨k + 1, m / 1000000000, H1.out, by omega, by go_num, by unfold Hid; rw [HM.out, div_pw_succ], by rw [HD.out] at h1; rw [listF_succ]; exact h1, (hb.alloc hb.size _).grown hg1 (hc2 _) fun g hg => (HO.out.lt g hg).1⟩
   case measure => simp [intOf]; omega
  ·have H0 := Lib.hid (natOf_end (N := N) (k := k) hk (by rw [← HM.out]; omega))
   have HO2 : Hid (OwnI wr w.heap.size v (limI N)) := by unfold Hid limI; rw [← H0.out]; exact HO.out
   go_wp2
   go_ret
   exact ⟨_, rfl, HO2.out, hb⟩
set_option maxHeartbeats 400000 in
theorem impl_limbsOf_nat (N : Nat) (w : World) (hN : N ≤ 9223372036854775807) :
  Calls Tryz.prog 142 #[.int .i64 N] w fun e w' => ∃ v, e = .returned v ∧ OwnI w' w.heap.size v (limI N) ∧ Below w.heap.size w w' := by
 have HL := Lib.hid (show nlen N ≤ 3 by rw [nlen_le_iff]; simp only [pw]; omega)
 go_enter Tryz.func142, Tryz.ntmps142
 go_wp2
 go_loopw [0, 3] (fun nv ov wr => ∃ (k m : Nat), k ≤ nlen N ∧ m ≤ N ∧ nv = .int .i64 m ∧ Hid (m = N / pw k) ∧ Hid (OwnI wr w.heap.size ov (listF k (fun i => (dig N i : Int)))) ∧ Below w.heap.size w wr) (fun nv _ _ => (intOf nv).toNat)
 case atStart => exact ⟨0, N, Nat.zero_le _, Nat.le_refl _, rfl, by unfold Hid; rw [pw_zero, Nat.div_one], OwnI.nil _ _, Below.refl _ w⟩
 case round =>
  obtain ⟨k, m, hk, hm, rfl, HM, HO, hb⟩ := hrel
  obtain ⟨v, rfl⟩ : ∃ v, v = u3 := ⟨_, rfl⟩
  by_cases hp : 0 < m
  ·have H1 := Lib.hid (natOf_next (N := N) (k := k) (by rw [← HM.out]; exact hp))
   have HD := Lib.hid (show ((m : Int) % 1000000000) = (dig N k : Int) by rw [HM.out]; unfold dig; simp)
   have hln : (listF k (fun i => (dig N i : Int))).length ≤ 1099511627776 := by rw [listF_length]; have := HL.out; omega
   have hc2 : ∀ o, w.heap.size ≤ (wr.alloc o).heap.size := fun o => by have := hb.size; simp; omega
   go_wp2_with (at_builtin; refine append_int rfl _ _ 120 Tryz.underlying120 rfl w.heap.size _ _ _ ⟨wr.heap.size, 0, none⟩ rfl (HO.out.alloc _) rfl (cell_one_new _ _ _) hln (hc2 _) ?_; intro v' w1 h1 hg1)
   go_roundw
   case rel => exact ⟨k + 1, m / 1000000000, H1.out, by omega, by go_num, by unfold Hid; rw [HM.out, div_pw_succ], by rw [HD.out] at h1; rw [listF_succ]; exact h1, (hb.alloc hb.size _).grown hg1 (hc2 _) fun g hg => (HO.out.lt g hg).1⟩
   case measure => simp [intOf]; omega
  ·have H0 := Lib.hid (natOf_end (N := N) (k := k) hk (by rw [← HM.out]; omega))
   have HO2 : Hid (OwnI wr w.heap.size v (limI N)) := by unfold Hid limI; rw [← H0.out]; exact HO.out
   go_wp2
   go_ret
   exact ⟨_, rfl, HO2.out, hb⟩
end Go.Proofs.YtlepgkkpopjgoaaGreat
namespace Go.Proofs.YtlepgkkpopjgoaaGreat
set_option maxRecDepth 100000
set_option linter.unusedVariables false
set_option linter.unusedSimpArgs false
set_option maxRecDepth 100000
open Go.RowKit Go.WideShapes Go.ChangeShapes
theorem bcell {W w1 : World} (hb : Below W.heap.size W w1) : (∀ b o, b < W.heap.size → w1.cell? ⟨b, o, none⟩ = W.cell? ⟨b, o, none⟩) ∧ (∀ b o, b < W.heap.size → w1.frozen? ⟨b, o, none⟩ = W.frozen? ⟨b, o, none⟩) :=
 ⟨fun b o h => hb.cell (p := ⟨b, o, none⟩) h, fun b o h => hb.frozen (p := ⟨b, o, none⟩) h⟩
theorem OwnI.slice {w : World} {B : Nat} {v : Value} {l : List Int} (h : OwnI w B v l) : ∃ a c, v = .slice a l.length c := by
 rcases h.2 with ⟨hv, hn⟩ | ⟨g, cap, cur, hv, _⟩
 ·exact ⟨none, 0, by rw [hv, hn]⟩
 ·exact ⟨_, _, hv⟩
theorem OwnI.old {w : World} {B : Nat} {v : Value} {l : List Int} (h : OwnI w B v l) {k : Nat} (hk : k < B) (j : Nat) (x : Value) : OwnI (w.setCell ⟨k, j, none⟩ x) B v l :=
 h.other (setCell_grown w k j x) (fun g g' e1 e2 => by
  have h1 := (World.ownsRow.lt h g e1).1
  have h2 : k = g' := by simpa using e2
  omega)
def Bx (w : World) (p : Nat) (t : TypeId) (b : Bool) (v : Value) : Prop := w.heap[p]? = some (.cells #[.bool b, v] t (0, 0))
theorem Bx.lt {w : World} {p : Nat} {t : TypeId} {b : Bool} {v : Value} (h : Bx w p t b v) : p < w.heap.size := (Array.getElem?_eq_some_iff.1 h).1
theorem Bx.c0 {w : World} {p : Nat} {t : TypeId} {b : Bool} {v : Value} (h : Bx w p t b v) : w.cell? ⟨p, 0, none⟩ = some (.bool b) := by simp [World.cell?, show w.heap[p]? = _ from h]
theorem Bx.c1 {w : World} {p : Nat} {t : TypeId} {b : Bool} {v : Value} (h : Bx w p t b v) : w.cell? ⟨p, 1, none⟩ = some v := by simp [World.cell?, show w.heap[p]? = _ from h]
theorem Bx.f0 {w : World} {p : Nat} {t : TypeId} {b : Bool} {v : Value} (h : Bx w p t b v) : w.frozen? ⟨p, 0, none⟩ = false := by simp [World.frozen?, show w.heap[p]? = _ from h]
theorem Bx.f1 {w : World} {p : Nat} {t : TypeId} {b : Bool} {v : Value} (h : Bx w p t b v) : w.frozen? ⟨p, 1, none⟩ = false := by simp [World.frozen?, show w.heap[p]? = _ from h]
theorem Bx.new (w : World) (t : TypeId) (b : Bool) (v : Value) : Bx (w.alloc (.cells #[.bool b, v] t)) w.heap.size t b v := World.alloc_heap_new w _
theorem Bx.kept {w w' : World} {row : Option Nat} {p : Nat} {t : TypeId} {b : Bool} {v : Value} (h : Bx w p t b v) (hg : w.grownBy w' row) (hne : some p ≠ row) : Bx w' p t b v := (hg.block p h.lt hne).trans h
theorem Bx.alloc {w : World} {p : Nat} {t : TypeId} {b : Bool} {v : Value} (h : Bx w p t b v) (o : Obj) : Bx (w.alloc o) p t b v := h.kept (World.grownBy_alloc w o none) (by simp)
theorem Bx.below {w w' : World} {p : Nat} {t : TypeId} {b : Bool} {v : Value} (h : Bx w p t b v) (hb : Below w.heap.size w w') : Bx w' p t b v := (hb.block p h.lt).trans h
theorem bx_at {w : World} {p q : Nat} {t : TypeId} {b : Bool} {v : Value} (h : Bx w p t b v) (e : q = p) : Bx w q t b v := by rw [e]; exact h
theorem cell_far {w : World} {p k j : Nat} (h : k ≠ p) (x y : Value) : ((w.setCell ⟨p, 0, none⟩ x).setCell ⟨p, 1, none⟩ y).cell? ⟨k, j, none⟩ = w.cell? ⟨k, j, none⟩ :=
 (World.cell?_of_block (a := ⟨k, j, none⟩) (Below.heap_setCell _ ⟨p, 1, none⟩ y k h)).trans (World.cell?_of_block (a := ⟨k, j, none⟩) (Below.heap_setCell _ ⟨p, 0, none⟩ x k h))
theorem cell_alloc {w : World} {p : Addr} {v : Value} (h : w.cell? p = some v) (o : Obj) : (w.alloc o).cell? p = some v :=
 (((Below.refl w.heap.size w).alloc (Nat.le_refl _) o).cell (World.block_lt_of_cell? w _ h)).trans h
theorem Bx.marked {w w' : World} {p : Nat} {t : TypeId} {b : Bool} {v u : Value} {l : List Int} {B : Nat} (h : Bx w p t b v) (ho : OwnI w B u l) (ht : t ≠ 3) (hg : w.grownBy w' u.ownBlock) : Bx w' p t b v := by
 refine h.kept hg (fun e => ?_)
 rcases ho.2 with ⟨rfl, _⟩ | ⟨g, cap, cur, rfl, _, hgb, _⟩
 ·simp [Value.ownBlock] at e
 ·have e2 : p = g := by simpa [Value.ownBlock] using e
  subst e2
  have h2 : w.heap[p]? = _ := h
  rw [hgb] at h2
  injection h2 with h2
  injection h2 with _ h3 _
  exact ht h3.symm
set_option maxHeartbeats 400000 in
theorem sz_ints_yes (a : Option Addr) (n c : Nat) (left : Int) (w : World) (h0 : left ≤ 1048576) (h1 : (n : Int) ≤ left) :
  Calls Tryz.prog 132 #[.slice a n c, .int .i64 left] w fun e w' => e = .returned (.int .i64 (left - n)) ∧ w' = w := by
 go_enter Tryz.func132, Tryz.ntmps132
 go_wp2
 go_ret
 exact ⟨rfl, rfl⟩
set_option maxHeartbeats 400000 in
theorem sz_ints_no (a : Option Addr) (n c : Nat) (left : Int) (w : World) (h0 : 0 ≤ left ∧ left ≤ 1048576 ∧ n ≤ 2 ^ 63 - 1) (h1 : left < n) :
  Calls Tryz.prog 132 #[.slice a n c, .int .i64 left] w fun e w' => e = .returned (.int .i64 (-1)) ∧ w' = w := by
 go_enter Tryz.func132, Tryz.ntmps132
 go_wp2
 go_ret
 exact ⟨rfl, rfl⟩
set_option maxHeartbeats 400000 in
theorem sz_big_yes (b : Bool) (a : Option Addr) (n c : Nat) (left : Int) (w : World) (h0 : left ≤ 1048576) (h1 : (n : Int) ≤ left) :
  Calls Tryz.prog 131 #[.agg #[.bool b, .slice a n c], .int .i64 left] w fun e w' => e = .returned (.int .i64 (left - n)) ∧ Below w.heap.size w w' := by
 go_enter Tryz.func131, Tryz.ntmps131
 go_wp2_with (go_at_call 132; refine (sz_ints_yes _ _ _ _ _ h0 h1).mono ?_; rintro e w' ⟨rfl, rfl⟩)
 go_ret
 exact ⟨rfl, (Below.refl _ _).alloc (Nat.le_refl _) _⟩
set_option maxHeartbeats 400000 in
theorem sz_big_no (b : Bool) (a : Option Addr) (n c : Nat) (left : Int) (w : World) (h0 : 0 ≤ left ∧ left ≤ 1048576 ∧ n ≤ 2 ^ 63 - 1) (h1 : left < n) :
  Calls Tryz.prog 131 #[.agg #[.bool b, .slice a n c], .int .i64 left] w fun e w' => e = .returned (.int .i64 (-1)) ∧ Below w.heap.size w w' := by
 go_enter Tryz.func131, Tryz.ntmps131
 go_wp2_with (go_at_call 132; refine (sz_ints_no _ _ _ _ _ h0 h1).mono ?_; rintro e w' ⟨rfl, rfl⟩)
 go_ret
 exact ⟨rfl, (Below.refl _ _).alloc (Nat.le_refl _) _⟩
theorem sz_ints_yesB (a : Option Addr) (n c : Nat) (left : Int) (w : World) (h0 : left ≤ 1048576) (h1 : (n : Int) ≤ left) :
  Calls Tryz.prog 132 #[.slice a n c, .int .i64 left] w fun e w' => e = .returned (.int .i64 (left - n)) ∧ Below w.heap.size w w' :=
 (sz_ints_yes a n c left w h0 h1).mono fun _ _ ⟨he, hw⟩ => ⟨he, by rw [hw]; exact Below.refl _ _⟩
theorem sz_ints_noB (a : Option Addr) (n c : Nat) (left : Int) (w : World) (h0 : 0 ≤ left ∧ left ≤ 1048576 ∧ n ≤ 2 ^ 63 - 1) (h1 : left < n) :
  Calls Tryz.prog 132 #[.slice a n c, .int .i64 left] w fun e w' => e = .returned (.int .i64 (-1)) ∧ Below w.heap.size w w' :=
 (sz_ints_no a n c left w h0 h1).mono fun _ _ ⟨he, hw⟩ => ⟨he, by rw [hw]; exact Below.refl _ _⟩
set_option maxHeartbeats 400000 in
theorem to_bigs {b : Bool} (v : Value) (zs : List Int) (w : World) (h : RowOf iV w v zs) (hl : zs.length ≤ 1099511627776) :
  Calls Tryz.prog 133 #[.agg #[.bool b, v]] w fun e w' => ∃ v', e = .returned (.agg #[.bool b, v']) ∧ OwnI w' w.heap.size v' zs ∧ Below w.heap.size w w' := by
 have H := Lib.hid (fun W (hW : Below w.heap.size w W) => to_ints v zs W (rowOf_below h hW) hl)
 obtain ⟨a, c, rfl, h1, h2, h3⟩ := h
 clear h1 h2 h3
 go_enter Tryz.func133, Tryz.ntmps133
 go_wp2_with fail
 have bA := (((Below.refl w.heap.size w).alloc (Nat.le_refl _) (.cells #[.bool b, .slice a zs.length c] 105)).alloc (by simp) (.cells #[.bool false, .slice none 0 0] 32)).alloc (by simp; omega) (.cells #[.bool b, .slice none 0 0] 32)
 refine (H.out _ bA).mono ?_
 rintro e w1 ⟨v', rfl, o1, b1⟩
 obtain ⟨a1, c1, rfl⟩ := o1.slice
 have O1 := Lib.hid o1
 have BA := Lib.hid (bA.trans (b1.mono (by simp; omega)))
 obtain ⟨hc, hf⟩ := bcell b1
 have hz : w.heap.size + 1 + 1 < w1.heap.size := by have := b1.size; simp at this; omega
 clear bA b1 o1
 go_wp2
 have hB := O1.out
 simp only [World.size_alloc] at hB
 exact bodyPost_ret (v := .agg #[.bool b, .slice a1 zs.length c1]) (by simp [results, Tryz.results133, go_sem, hc, hz]) rfl ⟨_, rfl, (((hB.old (by omega) _ _).old (by omega) _ _).old (by omega) _ _).base (by omega), ((BA.out.setCell (by simp; omega) _).setCell (by simp) _).setCell (by simp) _⟩
set_option maxHeartbeats 400000 in
theorem eq_bigsB {b : Bool} (v1 v2 : Value) (ss : List Int) (w : World) (h1 : RowOf iV w v1 ss) (h2 : RowOf iV w v2 ss) :
  Calls Tryz.prog 85 #[.agg #[.bool b, v1], .agg #[.bool b, v2]] w fun e w' => e = .returned (.bool true) ∧ Below w.heap.size w w' := by
 have H := Lib.hid (fun W (hW : Below w.heap.size w W) => eq_intsB v1 v2 ss W (rowOf_below h1 hW) (rowOf_below h2 hW))
 obtain ⟨a, c, rfl, e1, e2, e3⟩ := h1
 obtain ⟨a', c', rfl, e4, e5, e6⟩ := h2
 clear e1 e2 e3 e4 e5 e6
 have hbb : (b != b) = false := by simp
 go_enter Tryz.func85, Tryz.ntmps85
 go_wp2_with fail
 have bA := ((Below.refl w.heap.size w).alloc (Nat.le_refl _) (.cells #[.bool b, .slice a ss.length c] 32)).alloc (by simp) (.cells #[.bool b, .slice a' ss.length c'] 32)
 refine (H.out _ bA).mono ?_
 rintro e w1 ⟨rfl, b1⟩
 have BA := Lib.hid (bA.trans (b1.mono (by simp; omega)))
 clear b1 bA
 go_wp2
 go_ret
 exact ⟨rfl, BA.out⟩
theorem Bx.set {w : World} {p : Nat} {t : TypeId} {b b' : Bool} {v v' : Value} (h : Bx w p t b v) : Bx ((w.setCell ⟨p, 0, none⟩ (.bool b')).setCell ⟨p, 1, none⟩ v') p t b' v' := by
 have h1 : (w.setCell ⟨p, 0, none⟩ (.bool b')).heap[p]? = some (.cells #[.bool b', v] t (0, 0)) := by simp [World.setCell, Array.getElem?_modify, show w.heap[p]? = _ from h]
 show ((w.setCell ⟨p, 0, none⟩ (.bool b')).setCell ⟨p, 1, none⟩ v').heap[p]? = some (.cells #[.bool b', v'] t (0, 0))
 generalize w.setCell ⟨p, 0, none⟩ (.bool b') = w1 at h1 ⊢
 simp [World.setCell, Array.getElem?_modify, h1]
theorem own_bx2 {w : World} {p : Nat} {t : TypeId} {b : Bool} {v u : Value} {l : List Int} {B : Nat} (ho : OwnI w B u l) (h : Bx w p t b v) (ht : t ≠ 3) (x y : Value) : OwnI ((w.setCell ⟨p, 0, none⟩ x).setCell ⟨p, 1, none⟩ y) B u l := by
 have hne : ∀ g, u.ownBlock = some g → p ≠ g := by
  intro g e1 e2
  subst e2
  rcases ho.2 with ⟨rfl, _⟩ | ⟨g', cap, cur, rfl, _, hgb, _⟩
  ·simp [Value.ownBlock] at e1
  ·have e2 : g' = p := by simpa [Value.ownBlock] using e1
   subst e2
   have h2 : w.heap[g']? = _ := h
   rw [hgb] at h2
   injection h2 with h2
   injection h2 with _ h3 _
   exact ht h3.symm
 refine (ho.other (setCell_grown w p 0 x) (fun g g' e1 e2 => ?_)).other (setCell_grown _ p 1 y) (fun g g' e1 e2 => ?_)
 ·have : p = g' := by simpa using e2
  subst this; exact fun e => hne g e1 e.symm
 ·have : p = g' := by simpa using e2
  subst this; exact fun e => hne g e1 e.symm
end Go.Proofs.YtlepgkkpopjgoaaGreat
