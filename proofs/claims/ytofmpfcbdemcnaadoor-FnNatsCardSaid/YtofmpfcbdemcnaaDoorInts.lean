/- Rows of integers in memory: copying one, comparing two, writing the marks into one, and reading the marks again. -/
import Derived.Test.YtofmpfcbdemcnaaDoorRows1
import Derived.WalkKit
import Derived.WalkSpells
import Derived.WalkLawsBesides
import Derived.Lib.Hide
import Derived.Lib.OthersKept
import Derived.BigQuiet
import Derived.Deep.QuietTactic
import Derived.ChangeAlike
import Derived.RegionTactic
import Derived.Deep.RegionHeld3
import Derived.Deep.MidRow
import Derived.Laws.MakeOwn
import Derived.Laws.AppendOwn
namespace Go.Proofs.YtofmpfcbdemcnaaDoor
open Go.RowKit

theorem ret_int {a b : Int} (h : a = b) : Ending.returned (.int .i64 a) = .returned (.int .i64 b) := by rw [h]
def iV (x : Int) : Value := .int .i64 x
/-- v is a slice of the call's own, made since the heap had B blocks, and holds just l -/
def OwnI (w : World) (B : Nat) (v : Value) (l : List Int) : Prop := w.ownsRow B 3 1 v l.length (l.map iV)

theorem ownsRow_base {w : World} {B B' : Nat} {e : TypeId} {size : Nat} {v : Value} {n : Nat} {xs : List Value} (h : w.ownsRow B e size v n xs) (hB : B' ≤ B) : w.ownsRow B' e size v n xs := by
  obtain ⟨hl, h⟩ := h
  refine ⟨hl, ?_⟩
  rcases h with h | ⟨g, cap, cur, h1, h2, h3⟩
  · exact .inl h
  · exact .inr ⟨g, cap, cur, h1, by omega, h3⟩
theorem rowOf_below {α : Type} {f : α → Value} {w w' : World} {v : Value} {xs : List α} (h : RowOf f w v xs) (hb : Below w.heap.size w w') : RowOf f w' v xs := by
  obtain ⟨a, c, h1, h2, h3, h4⟩ := h
  refine ⟨a, c, h1, h2, h3, fun i hi => ?_⟩
  obtain ⟨b, o, e, hx⟩ := h4 i hi
  exact ⟨b, o, e, (hb.cell (p := ⟨b, o + i, none⟩) (by have := World.block_lt_of_cell? w _ hx; simpa using this)).trans hx⟩
theorem below_drewN {B : Nat} {a w : World} (h : Below B a w) (q : Nat) : Below B a (w.drewN q) := ⟨h.os, h.tape, h.output, h.size, h.block⟩

theorem OwnI.row {w : World} {B : Nat} {v : Value} {l : List Int} (h : OwnI w B v l) : RowOf iV w v l := ownsRow_row h
theorem OwnI.below {w w' : World} {B : Nat} {v : Value} {l : List Int} (h : OwnI w B v l) (hb : Below w.heap.size w w') : OwnI w' B v l := ownsRow_below h hb
theorem OwnI.drewN {w : World} {B : Nat} {v : Value} {l : List Int} (h : OwnI w B v l) (q : Nat) : OwnI (w.drewN q) B v l := h
theorem OwnI.base {w : World} {B B' : Nat} {v : Value} {l : List Int} (h : OwnI w B v l) (hB : B' ≤ B) : OwnI w B' v l := ownsRow_base h hB
theorem OwnI.nil (w : World) (B : Nat) : OwnI w B (.slice none 0 0) [] := World.ownsRow_nil _ _ _ _
/-- a row is not touched by what changes another row alone -/
theorem OwnI.other {w w' : World} {B : Nat} {v : Value} {l : List Int} {row : Option Nat} (h : OwnI w B v l) (hg : w.grownBy w' row) (hne : ∀ g g', v.ownBlock = some g → row = some g' → g ≠ g') : OwnI w' B v l :=
  World.ownsRow.kept h hg (by cases hv : v.ownBlock with
    | none => exact .inl rfl
    | some g => exact .inr (fun h => by cases row with
      | none => simp at h
      | some g' => exact hne g g' hv rfl (by simpa using h)))
/-- 'v[:k]' of a row of one's own -/
theorem OwnI.take {w : World} {B : Nat} {a : Option Addr} {n c : Nat} {l : List Int} (h : OwnI w B (.slice a n c) l) {k : Nat} (hk : k ≤ n) : OwnI w B (.slice a k c) (l.take k) := by
  obtain ⟨hl, ho⟩ := h
  rcases ho with ⟨hv, hn⟩ | ⟨g, cap, cur, hv, hB, hg, h1, h2, h3, h4⟩
  · injection hv with e1 e2 e3
    subst e1 e3
    obtain rfl : k = 0 := by omega
    rw [List.take_zero]
    exact OwnI.nil w B
  · injection hv with e1 e2 e3
    subst e1 e3
    have hkl : (l.take k).length = k := by rw [List.length_take]; omega
    refine ⟨by simp, .inr ⟨g, c, cur, by rw [hkl], hB, hg, by omega, h2, h3, ?_⟩⟩
    rw [hkl, Nat.mul_one]
    have := congrArg (List.take k) h4
    rw [List.take_take, Nat.mul_one, Nat.min_eq_left (by omega)] at this
    rw [this, List.map_take]

theorem info_int : (Tryd.prog.info? 3).map (fun i => (i.zero, i.size, i.bytes)) = some (some (.int .i64 0), 1, 8) := by kernel_rfl

set_option maxHeartbeats 400000 in
theorem eq_ints (v1 v2 : Value) (ss : List Int) (w : World) (h1 : RowOf iV w v1 ss) (h2 : RowOf iV w v2 ss) :
    Calls Tryd.prog 19 #[v1, v2] w fun e w' => e = .returned (.bool true) ∧ ∃ q, w' = w.drewN q := by
  obtain ⟨a1, c1, rfl, hc1, hm1, hr1⟩ := h1
  obtain ⟨a2, c2, rfl, hc2, hm2, hr2⟩ := h2
  unfold maxLen at hm1 hm2
  have hl : ss.length ≤ 9223372036854775807 := by omega
  have hneq : ((ss.length : Int) != (ss.length : Int)) = false := by simp
  have R1 := Lib.hid hr1
  have R2 := Lib.hid hr2
  clear hr1 hr2 hc1 hm1 hc2 hm2
  obtain ⟨n, hn⟩ : ∃ n, ss.length = n := ⟨_, rfl⟩
  rw [hn] at hl hneq ⊢
  have HN := Lib.hid hn
  clear hn
  go_enter Tryd.func19, Tryd.ntmps19
  go_wp2
  go_loopw [5] (fun i wr => ∃ k : Nat, k ≤ n ∧ i = .int .i64 k ∧ ∃ q, wr = w.drewN q) (fun i _ => n - (intOf i).toNat)
  case atStart => exact ⟨0, Nat.zero_le _, rfl, 0, rfl⟩
  case round =>
    obtain ⟨k, hk, rfl, q, rfl⟩ := hrel
    by_cases hlt : k < n
    · obtain ⟨b1, o1, rfl, hx1⟩ := R1.out k (by rw [HN.out]; exact hlt)
      obtain ⟨b2, o2, rfl, hx2⟩ := R2.out k (by rw [HN.out]; exact hlt)
      clear R1 R2
      obtain ⟨s, hs⟩ : ∃ s, ss[k]'(by rw [HN.out]; exact hlt) = s := ⟨_, rfl⟩
      rw [hs] at hx1 hx2
      unfold iV at hx1 hx2
      clear hs
      go_wp2
      go_region
      go_wp2
      go_roundw
      case rel => exact ⟨k + 1, by omega, by go_num, q + 1, rfl⟩
      case measure => simp [intOf]; omega
    · go_wp2
      go_ret
      exact ⟨rfl, _, rfl⟩

/-- the marksI from number m on -/
def marksI (m k : Nat) : List Int := (List.range k).map fun i => ((m + i : Nat) : Int)
theorem marksI_length (m k : Nat) : (marksI m k).length = k := by simp [marksI]
theorem marksI_succ (m k : Nat) : marksI m (k + 1) = marksI m k ++ [((m + k : Nat) : Int)] := by simp [marksI, List.range_succ]
theorem marksI_set (m k : Nat) (xs : List Value) (h : k < xs.length) : ((marksI m k).map iV ++ xs.drop k).set k (.int .i64 ((m + k : Nat) : Int)) = (marksI m (k + 1)).map iV ++ xs.drop (k + 1) := by
  have hd : xs.drop k = xs[k]'h :: xs.drop (k + 1) := List.drop_eq_getElem_cons h
  rw [marksI_succ, List.map_append, List.set_append_right _ _ (by simp [marksI_length])]
  rw [List.length_map, marksI_length, Nat.sub_self, hd, List.set_cons_zero, List.append_assoc]
  rfl

set_option maxHeartbeats 400000 in
theorem mark_ints0 (v : Value) (n m : Nat) (xs : List Value) (B : Nat) (w : World) (h : w.ownsRow B 3 1 v n xs) (hm : m + n ≤ 9223372036854775807) :
    Calls Tryd.prog 21 #[v, .int .i64 m] w fun e w' => e = .returned (.int .i64 ((m : Int) + (n : Int))) ∧ w'.ownsRow B 3 1 v n ((marksI m n).map iV) ∧ w.grownBy w' v.ownBlock := by
  have hl := h.1
  rcases h.2 with ⟨rfl, rfl⟩ | ⟨g, cap, cur, rfl, hB, hg, hn, hmx, hsz, htk⟩
  · go_enter Tryd.func21, Tryd.ntmps21
    go_wp2
    go_loop [1, 5] (fun kv iv => kv = .int .i64 m ∧ iv = .int .i64 0) (fun _ _ => 0)
    case atStart => exact ⟨rfl, rfl⟩
    case round =>
      obtain ⟨rfl, rfl⟩ := hrel
      go_wp2
      go_ret
      exact ⟨by simp, World.ownsRow_nil _ _ _ _, grownBy_refl _ _⟩
  · have H := Lib.hid h
    clear h htk hsz hg
    unfold maxLen at hmx
    have HL := Lib.hid hl
    clear hl
    go_enter Tryd.func21, Tryd.ntmps21
    go_wp2
    go_loopw [1, 5] (fun kv iv wr => ∃ k : Nat, k ≤ n ∧ kv = .int .i64 ((m : Int) + (k : Int)) ∧ iv = .int .i64 k ∧ Hid (wr.ownsRow B 3 1 (.slice (some ⟨g, 0, none⟩) n cap) n ((marksI m k).map iV ++ xs.drop k)) ∧ w.grownBy wr (some g)) (fun _ i _ => n - (intOf i).toNat)
    case atStart => exact ⟨0, Nat.zero_le _, by simp, rfl, H.out, grownBy_refl _ _⟩
    case round =>
      obtain ⟨k, hk, rfl, rfl, HO, hgr⟩ := hrel
      by_cases hlt : k < n
      · have hfz := World.ownsRow.frozenAt HO.out k
        have hce := World.ownsRow.cellAt HO.out k (by omega)
        obtain ⟨old, ho⟩ : ∃ old, ((marksI m k).map iV ++ xs.drop k)[k]? = some old := ⟨_, List.getElem?_eq_getElem (by simp [marksI_length]; have := HL.out; omega)⟩
        rw [ho] at hce
        clear ho
        have HS := Lib.hid (World.ownsRow.stored HO.out k (.int .i64 ((m : Int) + (k : Int))))
        have HG := Lib.hid (grownBy_trans hgr HS.out.2)
        clear hgr
        go_wp2
        go_roundw
        case rel => exact ⟨k + 1, by omega, by go_num, by go_num, by have := HS.out.1; rw [show ((m : Int) + (k : Int)) = ((m + k : Nat) : Int) by simp, marksI_set _ _ _ (by have := HL.out; omega)] at this; exact this, HG.out⟩
        case measure => simp [intOf]; omega
      · obtain rfl : k = n := by omega
        go_wp2
        go_ret
        refine ⟨rfl, ?_, hgr⟩
        have := HO.out
        rw [List.drop_of_length_le (by have := HL.out; omega), List.append_nil] at this
        exact this
theorem mark_ints (v : Value) (m : Nat) (mi : Int) (l : List Int) (B : Nat) (w : World) (hmi : mi = m) (h : OwnI w B v l) (hm : m + l.length ≤ 9223372036854775807) :
    Calls Tryd.prog 21 #[v, .int .i64 mi] w fun e w' => e = .returned (.int .i64 ((m : Int) + (l.length : Int))) ∧ OwnI w' B v (marksI m l.length) ∧ w.grownBy w' v.ownBlock := by
  subst hmi
  refine (mark_ints0 v l.length m _ B w h hm).mono ?_
  rintro e w' ⟨h1, h2, h3⟩
  exact ⟨h1, by unfold OwnI; rw [marksI_length]; exact h2, h3⟩

set_option maxHeartbeats 400000 in
theorem held_ints (v : Value) (n m : Nat) (mi : Int) (w : World) (hmi : mi = m) (h : RowOf iV w v (marksI m n)) (hm : m + n ≤ 9223372036854775807) :
    Calls Tryd.prog 22 #[v, .int .i64 mi] w fun e w' => e = .returned (.int .i64 ((m : Int) + (n : Int))) ∧ w' = w := by
  subst hmi
  obtain ⟨a, c, rfl, hc, hmx, hr⟩ := h
  rw [marksI_length] at hc ⊢
  have R := Lib.hid hr
  clear hr hc hmx
  go_enter Tryd.func22, Tryd.ntmps22
  go_wp2
  go_loop [1, 5] (fun kv iv => ∃ k : Nat, k ≤ n ∧ kv = .int .i64 ((m : Int) + (k : Int)) ∧ iv = .int .i64 k) (fun _ i => n - (intOf i).toNat)
  case atStart => exact ⟨0, Nat.zero_le _, by simp, rfl⟩
  case round =>
    obtain ⟨k, hk, rfl, rfl⟩ := hrel
    by_cases hlt : k < n
    · obtain ⟨b, o, rfl, hx⟩ := R.out k (by rw [marksI_length]; exact hlt)
      have e : (marksI m n)[k]'(by rw [marksI_length]; exact hlt) = (m : Int) + (k : Int) := by simp [marksI]
      rw [e] at hx
      unfold iV at hx
      clear e R
      go_wp2
      go_round
      case rel => exact ⟨k + 1, by omega, by go_num, by go_num⟩
      case measure => simp [intOf]; omega
    · obtain rfl : k = n := by omega
      go_wp2
      go_ret
      exact ⟨rfl, rfl⟩

end Go.Proofs.YtofmpfcbdemcnaaDoor
