/- Join and PadZeros of the model: the strings that they tell. -/
import Derived.Test.YtmjbnbabhgngpaaRows1
import Derived.Lib.Join
import Derived.Lib.Repeat
namespace Go.Proofs.Ytmjbnbabhgngpaa
open Go.RowKit

def joinK (ss : List ByteArray) (sep : ByteArray) (k : Nat) : List UInt8 := Lib.join ((ss.take k).map (·.data.toList)) sep.data.toList
theorem join_snoc (xs : List (List UInt8)) (x sep : List UInt8) (h : xs ≠ []) : Lib.join (xs ++ [x]) sep = Lib.join xs sep ++ sep ++ x := by
  cases xs with
  | nil => exact absurd rfl h
  | cons a r => rw [List.cons_append, Lib.join_cons, Lib.join_cons]; simp [Lib.joinTail]
theorem joinK_zero (ss : List ByteArray) (sep : ByteArray) : joinK ss sep 0 = [] := by simp [joinK, Lib.join, List.intercalate]
theorem joinK_one {ss : List ByteArray} {s : ByteArray} (sep : ByteArray) (h : 0 < ss.length) (hs : ss[0]'h = s) : joinK ss sep 1 = s.data.toList := by
  cases ss with
  | nil => simp at h
  | cons a r => simp at hs; subst hs; simp [joinK, Lib.join, List.intercalate]
theorem joinK_succ {ss : List ByteArray} {s : ByteArray} {k : Nat} (sep : ByteArray) (hk : 0 < k) (h : k < ss.length) (hs : ss[k]'h = s) : joinK ss sep (k + 1) = joinK ss sep k ++ sep.data.toList ++ s.data.toList := by
  unfold joinK
  rw [List.take_succ_eq_append_getElem h, List.map_append, hs, List.map_cons, List.map_nil, join_snoc]
  intro h'
  have := congrArg List.length h'
  simp only [List.length_map, List.length_take, List.length_nil] at this
  omega
theorem str_append (l : List UInt8) (s : ByteArray) : (⟨l.toArray⟩ : ByteArray) ++ s = ⟨(l ++ s.data.toList).toArray⟩ := by
  apply ByteArray.ext
  simp [ByteArray.data_append]

theorem ret_join0 (s : ByteArray) : Value.string (⟨#[]⟩ ++ s) = Value.string ⟨s.data.toList.toArray⟩ := by
  refine congrArg Value.string (ByteArray.ext ?_)
  simp [ByteArray.data_append]
theorem ret_join1 (out : List UInt8) (sep s : ByteArray) : Value.string ((⟨out.toArray⟩ : ByteArray) ++ sep ++ s) = Value.string ⟨(out ++ sep.data.toList ++ s.data.toList).toArray⟩ := by
  rw [str_append, str_append]

set_option maxHeartbeats 400000 in
theorem spec_join (v : Value) (ss : List ByteArray) (sep : ByteArray) (w : World) (h : RowOf .string w v ss) (hB : ∀ k, (joinK ss sep k).length ≤ 140737488355328) (hsep : sep.size ≤ 140737488355328) (hss : ∀ k (h : k < ss.length), (ss[k]'h).size ≤ 140737488355328) :
    Calls Try.prog 21 #[v, .string sep] w fun e w' => e = .returned (.string ⟨(joinK ss sep ss.length).toArray⟩) ∧ w' = w := by
  obtain ⟨a, c, rfl, hc, hm, hr⟩ := h
  unfold maxLen at hm
  have R := Lib.hid hr
  have HB := Lib.hid hB
  have HS := Lib.hid hss
  clear hr hB hss
  obtain ⟨n, hn⟩ : ∃ n, ss.length = n := ⟨_, rfl⟩
  rw [hn] at hc ⊢
  have HN := Lib.hid hn
  clear hn
  go_enter Try.func21, Try.ntmps21
  go_wp2
  go_loop [5, 6, 7, 10] (fun sv _ _ iv => ∃ (k : Nat) (out : List UInt8), k ≤ n ∧ iv = .int .i64 k ∧ sv = .string ⟨out.toArray⟩ ∧ Hid (out = joinK ss sep k)) (fun _ _ _ iv => n - (intOf iv).toNat)
  case atStart => exact ⟨0, [], Nat.zero_le _, rfl, rfl, (joinK_zero ss sep).symm⟩
  case round =>
    obtain ⟨k, out, hk, rfl, rfl, HO⟩ := hrel
    have hol : out.length ≤ 140737488355328 := by rw [HO.out]; exact HB.out k
    by_cases hlt : k < n
    · obtain ⟨b, o, rfl, hx⟩ := R.out k (by rw [HN.out]; exact hlt)
      obtain ⟨s, hs⟩ : ∃ s, ss[k]'(by rw [HN.out]; exact hlt) = s := ⟨_, rfl⟩
      have hsl : s.size ≤ 140737488355328 := by rw [← hs]; exact HS.out k _
      rw [hs] at hx
      by_cases hk0 : k = 0
      · have H0 := Lib.hid hk0
        have HJ := Lib.hid (show joinK ss sep 1 = s.data.toList from joinK_one sep (by rw [HN.out]; omega) (by subst hk0; exact hs))
        have hz : out = [] := by rw [HO.out, hk0, joinK_zero]
        subst hz
        have hk1 : (k : Int) ≤ 0 := by omega
        clear hk0
        go_wp2
        go_round
        case rel => exact ⟨k + 1, s.data.toList, by omega, by go_num, ret_join0 s, by rw [H0.out]; exact HJ.out.symm⟩
        case measure => simp [intOf]; omega
      · have HJ := Lib.hid (joinK_succ sep (by omega) (by rw [HN.out]; exact hlt) hs)
        go_wp2
        go_round
        case rel => exact ⟨k + 1, out ++ sep.data.toList ++ s.data.toList, by omega, by go_num, ret_join1 out sep s, by rw [HO.out]; exact HJ.out.symm⟩
        case measure => simp [intOf]; omega
    · obtain rfl : k = n := by omega
      go_wp2
      go_ret
      exact ⟨by rw [HO.out]; rfl, rfl⟩

end Go.Proofs.Ytmjbnbabhgngpaa
