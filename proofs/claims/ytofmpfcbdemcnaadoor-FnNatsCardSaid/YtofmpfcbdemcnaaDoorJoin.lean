/- Join and PadZeros of the model: the strings that they tell. -/
import Derived.Test.YtofmpfcbdemcnaaDoorRows1
import Derived.Lib.Join
import Derived.Lib.Repeat
namespace Go.Proofs.YtofmpfcbdemcnaaDoor
open Go.RowKit

def joinK (ss : List ByteArray) (sep : ByteArray) (k : Nat) : List UInt8 := Lib.join ((ss.take k).map (·.data.toList)) sep.data.toList
theorem join_snoc (xs : List (List UInt8)) (x sep : List UInt8) (h : xs ≠ []) : Lib.join (xs ++ [x]) sep = Lib.join xs sep ++ sep ++ x := by
  cases xs with
  | nil => exact absurd rfl h
  | cons a r => rw [List.cons_append, Lib.join_cons, Lib.join_cons]; simp [Lib.joinTail]
theorem joinK_zero (ss : List ByteArray) (sep : ByteArray) : joinK ss sep 0 = [] := by simp [joinK, Lib.join, List.intercalate]
theorem joinK_one {ss : List ByteArray} {s : ByteArray} (sep : ByteArray) (h : 0 < ss.length) (hs : ss[0]'h = s) : joinK ss sep 1 = s.data.toList := by
  cases ss with
  | nil => simp at h
  | cons a r => simp at hs; subst hs; simp [joinK, Lib.join, List.intercalate]
theorem joinK_succ {ss : List ByteArray} {s : ByteArray} {k : Nat} (sep : ByteArray) (hk : 0 < k) (h : k < ss.length) (hs : ss[k]'h = s) : joinK ss sep (k + 1) = joinK ss sep k ++ sep.data.toList ++ s.data.toList := by
  unfold joinK
  rw [List.take_succ_eq_append_getElem h, List.map_append, hs, List.map_cons, List.map_nil, join_snoc]
  intro h'
  have := congrArg List.length h'
  simp only [List.length_map, List.length_take, List.length_nil] at this
  omega
theorem str_append (l : List UInt8) (s : ByteArray) : (⟨l.toArray⟩ : ByteArray) ++ s = ⟨(l ++ s.data.toList).toArray⟩ := by
  apply ByteArray.ext
  simp [ByteArray.data_append]

theorem ret_join0 (s : ByteArray) : Value.string (⟨#[]⟩ ++ s) = Value.string ⟨s.data.toList.toArray⟩ := by
  refine congrArg Value.string (ByteArray.ext ?_)
  simp [ByteArray.data_append]
theorem ret_join1 (out : List UInt8) (sep s : ByteArray) : Value.string ((⟨out.toArray⟩ : ByteArray) ++ sep ++ s) = Value.string ⟨(out ++ sep.data.toList ++ s.data.toList).toArray⟩ := by
  rw [str_append, str_append]

end Go.Proofs.YtofmpfcbdemcnaaDoor
