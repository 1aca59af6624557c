/- Rows of strings in memory: comparing two of them, writing the marks into one, and reading the marks again. -/
import Derived.Test.YtmjbnbabhgngpaaMarks
import Derived.ChangeAlike
import Derived.RegionTactic
import Derived.Deep.RegionHeld3
namespace Go.Proofs.Ytmjbnbabhgngpaa
open Go.RowKit

/-- v is a slice whose cells hold xs, one cell each, as f writes them -/
def RowOf {α : Type} (f : α → Value) (w : World) (v : Value) (xs : List α) : Prop :=
  ∃ a cap, v = .slice a xs.length cap ∧ xs.length ≤ cap ∧ cap ≤ maxLen ∧ ∀ i (h : i < xs.length), ∃ b o, a = some ⟨b, o, none⟩ ∧ w.cell? ⟨b, o + i, none⟩ = some (f (xs[i]'h))

set_option maxHeartbeats 400000 in
theorem eq_strings (v1 v2 : Value) (ss : List ByteArray) (w : World) (h1 : RowOf .string w v1 ss) (h2 : RowOf .string w v2 ss) :
    Calls Try.prog 15 #[v1, v2] w fun e w' => e = .returned (.bool true) ∧ ∃ q, w' = w.drewN q := by
  obtain ⟨a1, c1, rfl, hc1, hm1, hr1⟩ := h1
  obtain ⟨a2, c2, rfl, hc2, hm2, hr2⟩ := h2
  unfold maxLen at hm1 hm2
  have hl : ss.length ≤ 9223372036854775807 := by omega
  have hneq : ((ss.length : Int) != (ss.length : Int)) = false := by simp
  have R1 := Lib.hid hr1
  have R2 := Lib.hid hr2
  clear hr1 hr2 hc1 hm1 hc2 hm2
  obtain ⟨n, hn⟩ : ∃ n, ss.length = n := ⟨_, rfl⟩
  rw [hn] at hl hneq ⊢
  have HN := Lib.hid hn
  clear hn
  go_enter Try.func15, Try.ntmps15
  go_wp2
  go_loopw [5] (fun i wr => ∃ k : Nat, k ≤ n ∧ i = .int .i64 k ∧ ∃ q, wr = w.drewN q) (fun i _ => n - (intOf i).toNat)
  case atStart => exact ⟨0, Nat.zero_le _, rfl, 0, rfl⟩
  case round =>
    obtain ⟨k, hk, rfl, q, rfl⟩ := hrel
    by_cases hlt : k < n
    · obtain ⟨b1, o1, rfl, hx1⟩ := R1.out k (by rw [HN.out]; exact hlt)
      obtain ⟨b2, o2, rfl, hx2⟩ := R2.out k (by rw [HN.out]; exact hlt)
      clear R1 R2
      obtain ⟨s, hs⟩ : ∃ s, ss[k]'(by rw [HN.out]; exact hlt) = s := ⟨_, rfl⟩
      rw [hs] at hx1 hx2
      clear hs
      go_wp2
      go_region
      go_wp2
      go_roundw
      case rel => exact ⟨k + 1, by omega, by go_num, q + 1, rfl⟩
      case measure => simp [intOf]; omega
    · go_wp2
      go_ret
      exact ⟨rfl, _, rfl⟩


theorem grownBy_refl (w : World) (row : Option Nat) : w.grownBy w row := ⟨rfl, rfl, rfl, Nat.le_refl _, fun _ _ _ => rfl⟩
theorem grownBy_trans {a b c : World} {row : Option Nat} (h : a.grownBy b row) (k : b.grownBy c row) : a.grownBy c row :=
  ⟨k.os.trans h.os, k.tape.trans h.tape, k.output.trans h.output, Nat.le_trans h.size k.size, fun i hi hr => (k.block i (by have := h.size; omega) hr).trans (h.block i hi hr)⟩
theorem grownBy_of_below {w w' : World} (h : Below w.heap.size w w') (row : Option Nat) : w.grownBy w' row :=
  ⟨h.os, h.tape, h.output, h.size, fun k hk _ => h.block k hk⟩
theorem ownsRow_below {w w' : World} {B : Nat} {e : TypeId} {size : Nat} {v : Value} {n : Nat} {xs : List Value} (h : w.ownsRow B e size v n xs) (hb : Below w.heap.size w w') : w'.ownsRow B e size v n xs :=
  h.kept (grownBy_of_below hb none) (by cases v.ownBlock <;> simp)
theorem ownsRow_row {α : Type} {f : α → Value} {w : World} {B : Nat} {e : TypeId} {v : Value} {n : Nat} {xs : List α} (h : w.ownsRow B e 1 v n (xs.map f)) : RowOf f w v xs := by
  obtain ⟨hl, h⟩ := h
  simp at hl
  rcases h with ⟨rfl, rfl⟩ | ⟨g, cap, cur, rfl, _, hg, h1, h2, h3, h4⟩
  · exact ⟨none, 0, by rw [hl], by omega, by unfold maxLen; omega, fun i hi => by omega⟩
  · refine ⟨some ⟨g, 0, none⟩, cap, by rw [hl], by omega, h2, fun i hi => ⟨g, 0, rfl, ?_⟩⟩
    have hx : (xs.map f)[i]? = some (f (xs[i]'hi)) := by simp [hi]
    rw [← h4] at hx
    have hc := World.ownsRow.cellAt (w := w) (base := B) (e := e) (size := 1) (g := g) (n := n) (cap := cap) (xs := xs.map f) ⟨by simp [hl], .inr ⟨g, cap, cur, rfl, by assumption, hg, h1, h2, h3, h4⟩⟩ i (by omega)
    rw [Nat.zero_add, hc]; simp [hi]

/-- the marks from number m on -/
def marks (m k : Nat) : List ByteArray := (List.range k).map fun i => markT ((m + i : Nat) : Int)
theorem marks_length (m k : Nat) : (marks m k).length = k := by simp [marks]
theorem marks_succ (m k : Nat) : marks m (k + 1) = marks m k ++ [markT ((m + k : Nat) : Int)] := by simp [marks, List.range_succ]
theorem marks_set (m k : Nat) (xs : List Value) (h : k < xs.length) : ((marks m k).map Value.string ++ xs.drop k).set k (.string (markT ((m + k : Nat) : Int))) = (marks m (k + 1)).map Value.string ++ xs.drop (k + 1) := by
  have hd : xs.drop k = xs[k]'h :: xs.drop (k + 1) := List.drop_eq_getElem_cons h
  rw [marks_succ, List.map_append, List.set_append_right _ _ (by simp [marks_length])]
  rw [List.length_map, marks_length, Nat.sub_self, hd, List.set_cons_zero, List.append_assoc]
  rfl

set_option maxHeartbeats 400000 in
theorem mark_strings (v : Value) (n m : Nat) (xs : List Value) (B : Nat) (w : World) (h : w.ownsRow B 9 1 v n xs) (hm : m + n ≤ 9223372036854775807) :
    Calls Try.prog 16 #[v, .int .i64 m] w fun e w' => e = .returned (.int .i64 ((m : Int) + (n : Int))) ∧ w'.ownsRow B 9 1 v n ((marks m n).map .string) ∧ w.grownBy w' v.ownBlock := by
  have hl := h.1
  rcases h.2 with ⟨rfl, rfl⟩ | ⟨g, cap, cur, rfl, hB, hg, hn, hmx, hsz, htk⟩
  · go_enter Try.func16, Try.ntmps16
    go_wp2
    go_loop [1, 5] (fun kv iv => kv = .int .i64 m ∧ iv = .int .i64 0) (fun _ _ => 0)
    case atStart => exact ⟨rfl, rfl⟩
    case round =>
      obtain ⟨rfl, rfl⟩ := hrel
      go_wp2
      go_ret
      exact ⟨by simp, World.ownsRow_nil _ _ _ _, grownBy_refl _ _⟩
  · have H := Lib.hid h
    clear h htk hsz hg
    unfold maxLen at hmx
    have HL := Lib.hid hl
    clear hl
    go_enter Try.func16, Try.ntmps16
    go_wp2
    go_loopw [1, 5] (fun kv iv wr => ∃ k : Nat, k ≤ n ∧ kv = .int .i64 ((m : Int) + (k : Int)) ∧ iv = .int .i64 k ∧ Hid (wr.ownsRow B 9 1 (.slice (some ⟨g, 0, none⟩) n cap) n ((marks m k).map .string ++ xs.drop k)) ∧ w.grownBy wr (some g)) (fun _ i _ => n - (intOf i).toNat)
    case atStart => exact ⟨0, Nat.zero_le _, by simp, rfl, H.out, grownBy_refl _ _⟩
    case round =>
      obtain ⟨k, hk, rfl, rfl, HO, hgr⟩ := hrel
      by_cases hlt : k < n
      · go_wp2_with fail
        refine (mark_text _ _ (by omega) (by omega)).mono ?_
        rintro e w1 ⟨rfl, hb1⟩
        have HO1 := Lib.hid (ownsRow_below HO.out hb1)
        have hfz := World.ownsRow.frozenAt HO1.out k
        have hce := World.ownsRow.cellAt HO1.out k (by omega)
        obtain ⟨old, ho⟩ : ∃ old, ((marks m k).map Value.string ++ xs.drop k)[k]? = some old := ⟨_, List.getElem?_eq_getElem (by simp [marks_length]; have := HL.out; omega)⟩
        rw [ho] at hce
        clear ho
        have HS := Lib.hid (World.ownsRow.stored HO1.out k (.string (markT ((m : Int) + (k : Int)))))
        have HG := Lib.hid (grownBy_trans (grownBy_trans hgr (grownBy_of_below hb1 _)) HS.out.2)
        clear hb1 hgr
        go_wp2
        go_roundw
        case rel => exact ⟨k + 1, by omega, by go_num, by go_num, by have := HS.out.1; rw [show ((m : Int) + (k : Int)) = ((m + k : Nat) : Int) by simp, marks_set _ _ _ (by have := HL.out; omega)] at this; exact this, HG.out⟩
        case measure => simp [intOf]; omega
      · obtain rfl : k = n := by omega
        go_wp2
        go_ret
        refine ⟨rfl, ?_, hgr⟩
        have := HO.out
        rw [List.drop_of_length_le (by have := HL.out; omega), List.append_nil] at this
        exact this


set_option maxHeartbeats 400000 in
theorem held_strings (v : Value) (n m : Nat) (w : World) (h : RowOf .string w v (marks m n)) (hm : m + n ≤ 9223372036854775807) :
    Calls Try.prog 17 #[v, .int .i64 m] w fun e w' => e = .returned (.int .i64 ((m : Int) + (n : Int))) ∧ Below w.heap.size w w' := by
  obtain ⟨a, c, rfl, hc, hmx, hr⟩ := h
  rw [marks_length] at hc ⊢
  have R := Lib.hid hr
  clear hr hc hmx
  go_enter Try.func17, Try.ntmps17
  go_wp2
  go_loopw [1, 5] (fun kv iv wr => ∃ k : Nat, k ≤ n ∧ kv = .int .i64 ((m : Int) + (k : Int)) ∧ iv = .int .i64 k ∧ Below w.heap.size w wr) (fun _ i _ => n - (intOf i).toNat)
  case atStart => exact ⟨0, Nat.zero_le _, by simp, rfl, Below.refl _ _⟩
  case round =>
    obtain ⟨k, hk, rfl, rfl, hb⟩ := hrel
    by_cases hlt : k < n
    · obtain ⟨b, o, rfl, hx⟩ := R.out k (by rw [marks_length]; exact hlt)
      have e : (marks m n)[k]'(by rw [marks_length]; exact hlt) = markT ((m : Int) + (k : Int)) := by simp [marks]
      rw [e] at hx
      have hbl := World.block_lt_of_cell? w _ hx
      have hx1 : wr.cell? ⟨b, o + k, none⟩ = some (.string (markT ((m : Int) + (k : Int)))) := (hb.cell (p := ⟨b, o + k, none⟩) hbl).trans hx
      clear e R hx
      have hbl2 : b < wr.heap.size := by have := hb.size; simp at hbl; omega
      go_wp2
      go_region_held3 (fun w' => w'.cell? ⟨b, o + k, none⟩ = some (.string (markT ((m : Int) + (k : Int))))) (first | go_keep | exact (hb1.cell (p := ⟨b, o + k, none⟩) (by simp; omega)).trans (by assumption))
        (first | (go_at_call 29; refine (mark_text _ _ (by omega) (by omega)).mono ?_; rintro e w1 ⟨rfl, hb1⟩))
      all_goals go_wp2
      go_roundw
      case rel => exact ⟨k + 1, by omega, by go_num, by go_num, hb.drew.trans (hb1.mono (by have := hb.size; simp; omega))⟩
      case measure => simp [intOf]; omega
    · obtain rfl : k = n := by omega
      go_wp2
      go_ret
      exact ⟨rfl, hb⟩

end Go.Proofs.Ytmjbnbabhgngpaa
