/- Rows of strings in memory: comparing two of them, writing the marks into one, and reading the marks again. -/
import Derived.Test.YtofmpfcbdemcnaaDoorMarks
import Derived.ChangeAlike
import Derived.RegionTactic
import Derived.Deep.RegionHeld3
namespace Go.Proofs.YtofmpfcbdemcnaaDoor
open Go.RowKit

/-- v is a slice whose cells hold xs, one cell each, as f writes them -/
def RowOf {α : Type} (f : α → Value) (w : World) (v : Value) (xs : List α) : Prop :=
  ∃ a cap, v = .slice a xs.length cap ∧ xs.length ≤ cap ∧ cap ≤ maxLen ∧ ∀ i (h : i < xs.length), ∃ b o, a = some ⟨b, o, none⟩ ∧ w.cell? ⟨b, o + i, none⟩ = some (f (xs[i]'h))

theorem grownBy_refl (w : World) (row : Option Nat) : w.grownBy w row := ⟨rfl, rfl, rfl, Nat.le_refl _, fun _ _ _ => rfl⟩
theorem grownBy_trans {a b c : World} {row : Option Nat} (h : a.grownBy b row) (k : b.grownBy c row) : a.grownBy c row :=
  ⟨k.os.trans h.os, k.tape.trans h.tape, k.output.trans h.output, Nat.le_trans h.size k.size, fun i hi hr => (k.block i (by have := h.size; omega) hr).trans (h.block i hi hr)⟩
theorem grownBy_of_below {w w' : World} (h : Below w.heap.size w w') (row : Option Nat) : w.grownBy w' row :=
  ⟨h.os, h.tape, h.output, h.size, fun k hk _ => h.block k hk⟩
theorem ownsRow_below {w w' : World} {B : Nat} {e : TypeId} {size : Nat} {v : Value} {n : Nat} {xs : List Value} (h : w.ownsRow B e size v n xs) (hb : Below w.heap.size w w') : w'.ownsRow B e size v n xs :=
  h.kept (grownBy_of_below hb none) (by cases v.ownBlock <;> simp)
theorem ownsRow_row {α : Type} {f : α → Value} {w : World} {B : Nat} {e : TypeId} {v : Value} {n : Nat} {xs : List α} (h : w.ownsRow B e 1 v n (xs.map f)) : RowOf f w v xs := by
  obtain ⟨hl, h⟩ := h
  simp at hl
  rcases h with ⟨rfl, rfl⟩ | ⟨g, cap, cur, rfl, _, hg, h1, h2, h3, h4⟩
  · exact ⟨none, 0, by rw [hl], by omega, by unfold maxLen; omega, fun i hi => by omega⟩
  · refine ⟨some ⟨g, 0, none⟩, cap, by rw [hl], by omega, h2, fun i hi => ⟨g, 0, rfl, ?_⟩⟩
    have hx : (xs.map f)[i]? = some (f (xs[i]'hi)) := by simp [hi]
    rw [← h4] at hx
    have hc := World.ownsRow.cellAt (w := w) (base := B) (e := e) (size := 1) (g := g) (n := n) (cap := cap) (xs := xs.map f) ⟨by simp [hl], .inr ⟨g, cap, cur, rfl, by assumption, hg, h1, h2, h3, h4⟩⟩ i (by omega)
    rw [Nat.zero_add, hc]; simp [hi]

/-- the marks from number m on -/
def marks (m k : Nat) : List ByteArray := (List.range k).map fun i => markT ((m + i : Nat) : Int)
theorem marks_length (m k : Nat) : (marks m k).length = k := by simp [marks]
theorem marks_succ (m k : Nat) : marks m (k + 1) = marks m k ++ [markT ((m + k : Nat) : Int)] := by simp [marks, List.range_succ]
theorem marks_set (m k : Nat) (xs : List Value) (h : k < xs.length) : ((marks m k).map Value.string ++ xs.drop k).set k (.string (markT ((m + k : Nat) : Int))) = (marks m (k + 1)).map Value.string ++ xs.drop (k + 1) := by
  have hd : xs.drop k = xs[k]'h :: xs.drop (k + 1) := List.drop_eq_getElem_cons h
  rw [marks_succ, List.map_append, List.set_append_right _ _ (by simp [marks_length])]
  rw [List.length_map, marks_length, Nat.sub_self, hd, List.set_cons_zero, List.append_assoc]
  rfl

end Go.Proofs.YtofmpfcbdemcnaaDoor
