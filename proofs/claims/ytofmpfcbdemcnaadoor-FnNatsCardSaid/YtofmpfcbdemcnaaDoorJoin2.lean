/- Join of the program: what it returns for a row of strings. -/
import Derived.Test.YtofmpfcbdemcnaaDoorJoin
import Derived.Test.YtofmpfcbdemcnaaDoorShelf
namespace Go.Proofs.YtofmpfcbdemcnaaDoor
open Go.RowKit

theorem joinK_all (ss : List ByteArray) (sep : ByteArray) : joinK ss sep ss.length = Lib.join (ss.map (·.data.toList)) sep.data.toList := by
  unfold joinK; rw [List.take_length]
theorem lib_join (v : Value) (ss : List ByteArray) (sep : ByteArray) (w : World) (h : RowOf .string w v ss) (hB : (joinK ss sep ss.length).length ≤ 140737488355328) (hn : ss.length ≤ 140737488355328) :
    Calls Tryd.prog 94 #[v, .string sep] w fun e w' => e = .returned (.string ⟨(joinK ss sep ss.length).toArray⟩) ∧ Below w.heap.size w w' := by
  obtain ⟨a, c, rfl, hc, hm, hr⟩ := h
  rw [joinK_all] at hB ⊢
  cases hss : ss with
  | nil => exact (Tryd.strings_Join_none a c sep w).mono fun e w' ⟨he, hw⟩ => ⟨by rw [he]; rfl, by rw [hw]; exact Below.refl _ _⟩
  | cons s r =>
    rw [← hss]
    obtain ⟨b, o, ha, hx⟩ := hr 0 (by rw [hss]; simp)
    have hb := World.block_lt_of_cell? w _ hx
    rw [ha]
    refine Tryd.strings_Join b o c ss sep w ?_ (by simpa using hb) hn hc hB
    intro j x hj
    obtain ⟨hjl, hje⟩ := List.getElem?_eq_some_iff.1 hj
    obtain ⟨b', o', ha', hx'⟩ := hr j hjl
    rw [ha] at ha'
    simp at ha'
    obtain ⟨rfl, rfl⟩ := ha'
    rw [hx', hje]
set_option maxHeartbeats 400000 in
theorem join_parts (v : Value) (ss : List ByteArray) (sep : ByteArray) (w : World) (h : RowOf .string w v ss) (hB : (joinK ss sep ss.length).length ≤ 140737488355328) (hn : ss.length ≤ 140737488355328) :
    Calls Tryd.prog 85 #[.string sep, v] w fun e w' => e = .returned (.string ⟨(joinK ss sep ss.length).toArray⟩) ∧ Below w.heap.size w w' := by
  have H := Lib.hid h
  clear h
  go_enter Tryd.func85, Tryd.ntmps85
  go_wp2_with fail
  refine (lib_join v ss sep _ H.out hB hn).mono ?_
  rintro e w1 ⟨rfl, hb⟩
  go_wp2_with fail
  go_ret
  exact ⟨rfl, hb⟩
theorem impl_join (v : Value) (ss : List ByteArray) (sep : ByteArray) (w : World) (h : RowOf .string w v ss) (hB : (joinK ss sep ss.length).length ≤ 140737488355328) (hn : ss.length ≤ 140737488355328) :
    Calls Tryd.prog 68 #[v, .string sep] w fun e w' => e = .returned (.string ⟨(joinK ss sep ss.length).toArray⟩) ∧ Below w.heap.size w w' := by
  have H := Lib.hid h
  clear h
  go_enter Tryd.func68, Tryd.ntmps68
  go_wp2_with fail
  refine (join_parts v ss sep _ H.out hB hn).mono ?_
  rintro e w1 ⟨rfl, hb⟩
  go_wp2_with fail
  go_ret
  exact ⟨rfl, hb⟩

end Go.Proofs.YtofmpfcbdemcnaaDoor
