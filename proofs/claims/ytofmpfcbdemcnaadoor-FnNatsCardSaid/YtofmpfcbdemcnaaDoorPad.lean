/- PadZeros of the program and of the model both put as many zeros ahead of a string as are wanted for n bytes, none where n is greater than 2000. -/
import Derived.Test.YtofmpfcbdemcnaaDoorJoin2
namespace Go.Proofs.YtofmpfcbdemcnaaDoor
open Go.RowKit

def padT (s : ByteArray) (n : Int) : ByteArray := if n ≤ s.size ∨ 2000 < n then s else ⟨(List.replicate (n.toNat - s.size) 48 ++ s.data.toList).toArray⟩
theorem padT_self {s : ByteArray} {n : Int} (h : n ≤ s.size ∨ 2000 < n) : padT s n = s := by unfold padT; rw [if_pos h]
theorem padT_more {s : ByteArray} {n : Nat} (h : s.size < n) (h2 : n ≤ 2000) : padT s n = ⟨(List.replicate (n - s.size) 48 ++ s.data.toList).toArray⟩ := by
  unfold padT; rw [if_neg (by omega)]; rfl
theorem pad_step (j : Nat) (s : ByteArray) : (⟨#[48]⟩ : ByteArray) ++ ⟨(List.replicate j 48 ++ s.data.toList).toArray⟩ = ⟨(List.replicate (j + 1) 48 ++ s.data.toList).toArray⟩ := by
  apply ByteArray.ext
  simp [ByteArray.data_append, List.replicate_succ]
theorem pad_zero (s : ByteArray) : (⟨(List.replicate 0 48 ++ s.data.toList).toArray⟩ : ByteArray) = s := by
  apply ByteArray.ext
  simp
theorem pad_size (j : Nat) (s : ByteArray) : (⟨(List.replicate j 48 ++ s.data.toList).toArray⟩ : ByteArray).size = j + s.size := by
  show (List.replicate j 48 ++ s.data.toList).toArray.size = _
  simp

set_option maxHeartbeats 400000 in
theorem spec_pad (s : ByteArray) (n : Int) (w : World) (hs : s.size ≤ maxLen) (h0 : -9223372036854775808 ≤ n) (h1 : n ≤ 9223372036854775807) :
    Calls Tryd.prog 49 #[.string s, .int .i64 n] w fun e w' => e = .returned (.string (padT s n)) ∧ w' = w := by
  unfold maxLen at hs
  by_cases hn : 2000 < n
  · have H := Lib.hid (padT_self (s := s) (.inr hn))
    go_enter Tryd.func49, Tryd.ntmps49
    go_wp2
    go_ret
    exact ⟨by rw [H.out]; rfl, rfl⟩
  · have HP := Lib.hid (fun h => padT_self (s := s) (n := n) (.inl h))
    go_enter Tryd.func49, Tryd.ntmps49
    go_wp2
    go_loop [0] (fun sv => ∃ (j : Nat) (t : ByteArray), sv = .string t ∧ Hid (t = ⟨(List.replicate j 48 ++ s.data.toList).toArray⟩) ∧ t.size = j + s.size ∧ (j = 0 ∨ (j : Int) + s.size ≤ n)) (fun sv => (n - match sv with | .string t => (t.size : Int) | _ => 0).toNat)
    case atStart => exact ⟨0, s, rfl, (pad_zero s).symm, by simp, .inl rfl⟩
    case round =>
      obtain ⟨j, t, rfl, HT, hsz, hj⟩ := hrel
      by_cases hlt : (t.size : Int) < n
      · have HS := Lib.hid hsz
        have hb : t.size ≤ 2000 := by omega
        clear hsz
        go_wp2
        go_round
        case rel => exact ⟨j + 1, _, rfl, by rw [HT.out, pad_step]; rfl, by have := HS.out; simp [ByteArray.size_append]; show 1 + t.size = _; omega, .inr (by have := HS.out; omega)⟩
        case measure => simp; show (n - (1 + (t.size : Int))).toNat < _; omega
      · have H : Hid (padT s n = t) := by
          unfold Hid
          rw [HT.out]
          rcases hj with rfl | hj
          · rw [HP.out (by omega), pad_zero]
          · by_cases e : j = 0
            · subst e; rw [HP.out (by omega), pad_zero]
            · obtain ⟨m, rfl⟩ := Int.eq_ofNat_of_zero_le (show 0 ≤ n by omega)
              rw [padT_more (by omega) (by omega), show m - s.size = j by omega]
        clear hj
        go_wp2
        go_ret
        exact ⟨by rw [H.out]; rfl, rfl⟩

theorem repeat_one (c : UInt8) : ∀ k, Lib.repeatL [c] k = List.replicate k c
  | 0 => rfl
  | k + 1 => by rw [Lib.repeatL, repeat_one c k, List.replicate_succ]; rfl
theorem pad_join (k : Nat) (s : ByteArray) : joinK [⟨(Lib.repeatL [48] k).toArray⟩, s] ⟨#[]⟩ 2 = List.replicate k 48 ++ s.data.toList := by
  rw [repeat_one]
  simp [joinK, Lib.join, List.intercalate]

set_option maxHeartbeats 400000 in
theorem impl_pad (s : ByteArray) (n : Int) (w : World) (hs : s.size ≤ 140737488000000) (h0 : -9223372036854775808 ≤ n) (h1 : n ≤ 9223372036854775807) :
    Calls Tryd.prog 67 #[.string s, .int .i64 n] w fun e w' => e = .returned (.string (padT s n)) ∧ Below w.heap.size w w' := by
  by_cases hn : n ≤ s.size
  · have H := Lib.hid (padT_self (s := s) (.inl hn))
    go_enter Tryd.func67, Tryd.ntmps67
    go_wp2
    go_ret
    exact ⟨by rw [H.out]; rfl, Below.refl _ _⟩
  by_cases hn2 : 2000 < n
  · have H := Lib.hid (padT_self (s := s) (.inr hn2))
    go_enter Tryd.func67, Tryd.ntmps67
    go_wp2
    go_ret
    exact ⟨by rw [H.out]; rfl, Below.refl _ _⟩
  obtain ⟨m, rfl⟩ := Int.eq_ofNat_of_zero_le (show 0 ≤ n by omega)
  have H := Lib.hid (padT_more (s := s) (n := m) (by omega) (by omega))
  have hR := fun W => Tryd.strings_Repeat ⟨#[48]⟩ (m - s.size) W (by omega) (by show 1 * _ ≤ _; omega)
  have HR := Lib.hid hR
  clear hR
  go_enter Tryd.func67, Tryd.ntmps67
  go_wp2_with fail
  rw [show ((m : Int) - (s.size : Int)) = ((m - s.size : Nat) : Int) by omega]
  refine (HR.out _).mono ?_
  rintro e w1 ⟨rfl, hb1⟩
  go_wp2_with fail
  have hrow := ownsRow_row (xs := [⟨(Lib.repeatL [48] (m - s.size)).toArray⟩, s]) (f := Value.string) (World.ownsRow_lit (base := 0) (e := 9) w1 #[Value.string ⟨(Lib.repeatL [48] (m - s.size)).toArray⟩, Value.string s] 2 (Nat.zero_le _) (by unfold maxLen; omega) rfl)
  refine (join_parts _ _ ⟨#[]⟩ _ hrow (by show (joinK _ _ 2).length ≤ _; rw [pad_join]; simp; have := hs; omega) (by simp)).mono ?_
  rintro e w2 ⟨rfl, hb2⟩
  go_wp2
  go_ret
  refine ⟨?_, (hb1.alloc hb1.size _).trans (hb2.mono (by have := hb1.size; simp; omega))⟩
  rw [H.out, ← pad_join]
  rfl

end Go.Proofs.YtofmpfcbdemcnaaDoor
