/- IsDigits of the program and IsDigits of the model both tell whether a string has at least one byte and every byte of it is a digit. -/
import Derived.Test.YtofmpfcbdemcnaaDoorRows
import Derived.WalkKit
import Derived.WalkSpells
import Derived.WalkLawsBesides
import Derived.Lib.Hide
import Derived.Lib.OthersKept
import Derived.Lib.RuneCount
import Derived.BigQuiet
import Derived.Deep.QuietTactic
namespace Go.Proofs.YtofmpfcbdemcnaaDoor
open Go.RowKit

/-- all bytes before place k are digits -/
def DigTo (s : ByteArray) (k : Nat) : Prop := ∀ j (h : j < s.size), j < k → 48 ≤ (s[j]'h).toNat ∧ (s[j]'h).toNat ≤ 57
theorem digTo_zero (s : ByteArray) : DigTo s 0 := fun _ _ h => absurd h (by omega)
theorem digTo_succ {s : ByteArray} {k : Nat} (hk : k < s.size) (h : DigTo s k) (h1 : 48 ≤ (s[k]'hk).toNat) (h2 : (s[k]'hk).toNat ≤ 57) : DigTo s (k + 1) := by
  intro j hj hjk
  by_cases e : j = k
  · subst e; exact ⟨h1, h2⟩
  · exact h j hj (by omega)
/-- at least one byte, all of them digits -/
def digB (s : ByteArray) : Bool := s.data.toList.all (fun c => 48 ≤ c && c ≤ 57) && decide (0 < s.size)
theorem digB_no {s : ByteArray} {k : Nat} (hk : k < s.size) (h : ¬ (48 ≤ (s[k]'hk).toNat ∧ (s[k]'hk).toNat ≤ 57)) : digB s = false := by
  have hm : s[k]'hk ∈ s.data.toList := by
    have : s[k]'hk = s.data[k]'hk := rfl
    rw [this]; simp
  unfold digB
  rw [Bool.and_eq_false_iff]; left
  rw [List.all_eq_false]
  exact ⟨_, hm, by simp only [UInt8.le_iff_toNat_le, Bool.and_eq_true, decide_eq_true_eq]; simpa using h⟩
theorem digB_end {s : ByteArray} (h : DigTo s s.size) : digB s = decide (0 < s.size) := by
  unfold digB
  have : s.data.toList.all (fun c => 48 ≤ c && c ≤ 57) = true := by
    rw [List.all_eq_true]
    intro c hc
    obtain ⟨j, hj, rfl⟩ := List.getElem_of_mem hc
    have := h j (by simpa using hj) (by simpa using hj)
    simp only [UInt8.le_iff_toNat_le, Bool.and_eq_true, decide_eq_true_eq]
    exact this
  rw [this, Bool.true_and]
theorem ret_bool {a b : Bool} (h : a = b) : Ending.returned (.bool a) = .returned (.bool b) := by rw [h]

set_option maxHeartbeats 400000 in
theorem spec_isDigits (s : ByteArray) (w : World) (hs : s.size ≤ maxLen) :
    Calls Tryd.prog 50 #[.string s] w fun e w' => e = .returned (.bool (digB s)) ∧ w' = w := by
  unfold maxLen at hs
  go_enter Tryd.func50, Tryd.ntmps50
  go_wp2
  go_loop [3] (fun i => ∃ k : Nat, k ≤ s.size ∧ i = .int .i64 k ∧ DigTo s k) (fun i => s.size - (intOf i).toNat)
  case atStart => exact ⟨0, Nat.zero_le _, rfl, digTo_zero s⟩
  case round =>
    obtain ⟨k, hk, rfl, hd⟩ := hrel
    by_cases hlt : k < s.size
    · have H1 := Lib.hid (fun h => digB_no hlt h)
      have H2 := Lib.hid (fun h1 h2 => digTo_succ hlt hd h1 h2)
      clear hd
      go_wp2
      · have hw : (s[k]'hlt).toNat < 48 ∨ 57 < (s[k]'hlt).toNat := by omega
        go_ret
        exact ⟨ret_bool (by rw [H1.out (by omega)]), rfl⟩
      · go_round
        case rel => exact ⟨k + 1, by omega, by go_num, H2.out (by omega) (by omega)⟩
        case measure => simp [intOf]; omega
      · go_ret
        exact ⟨ret_bool (by rw [H1.out (by omega)]), rfl⟩
    · have hks : k = s.size := by omega
      have H := Lib.hid (digB_end (hks ▸ hd))
      clear hd
      subst hks
      go_wp2
      go_ret
      exact ⟨ret_bool (by rw [H.out]), rfl⟩


theorem is_digit (c : Int) (w : World) (h0 : 0 ≤ c) (h1 : c ≤ 2147483647) :
    Calls Tryd.prog 62 #[.int .i32 c] w fun e w' => e = .returned (.bool (decide (48 ≤ c ∧ c ≤ 57))) ∧ w' = w := by
  by_cases a : 48 ≤ c
  · by_cases b : c ≤ 57
    all_goals
      go_enter Tryd.func62, Tryd.ntmps62
      go_wp2
      go_ret
      exact ⟨ret_bool (by simp; omega), rfl⟩
  · go_enter Tryd.func62, Tryd.ntmps62
    go_wp2
    go_ret
    exact ⟨ret_bool (by simp; omega), rfl⟩

/-- what the next rune tells: a digit where the byte is one, and of width 1 there -/
theorem decode_digit (s : ByteArray) (p : Nat) (h : p < s.size) : ((48 ≤ (Utf8.decode s p).1 ∧ (Utf8.decode s p).1 ≤ 57) ↔ (48 ≤ (s[p]'h).toNat ∧ (s[p]'h).toNat ≤ 57)) ∧ ((s[p]'h).toNat < 128 → (Utf8.decode s p).2 = 1) := by
  by_cases ha : (s[p]'h).toNat < 128
  · rw [decode_ascii s p h ha]; exact ⟨Iff.rfl, fun _ => rfl⟩
  · have := decode_high s p h (by omega)
    exact ⟨by omega, fun h' => absurd h' ha⟩

/-- what the next rune tells of the byte it begins at -/
theorem decode_byte (s : ByteArray) (p : Nat) (h : p < s.size) : ((s[p]'h).toNat < 128 → (Utf8.decode s p) = ((s[p]'h).toNat, 1)) ∧ (128 ≤ (s[p]'h).toNat → 128 ≤ (Utf8.decode s p).1) :=
  ⟨fun ha => decode_ascii s p h ha, fun ha => (decode_high s p h ha).1⟩

theorem nonempty_eq (s : ByteArray) : (!s.toList.isEmpty) = decide (0 < s.size) := by
  rw [ByteArray.toList_eq]
  have : s.size = s.data.toList.length := rfl
  rw [this]
  cases s.data.toList <;> simp

set_option maxHeartbeats 400000 in
theorem impl_isDigits (s : ByteArray) (w : World) (hs : s.size ≤ maxLen) :
    Calls Tryd.prog 38 #[.string s] w fun e w' => e = .returned (.bool (digB s)) ∧ Below w.heap.size w w' := by
  unfold maxLen at hs
  go_enter Tryd.func38, Tryd.ntmps38
  go_wp2
  go_loopw [] (fun w' => ∃ pos : Nat, pos ≤ s.size ∧ w' = w.iter s pos ∧ DigTo s pos) (fun w' => s.size - w'.iterPos w.heap.size)
  case atStart => exact ⟨0, Nat.zero_le _, rfl, digTo_zero s⟩
  case round =>
    obtain ⟨pos, hk, rfl, hd⟩ := hrel
    by_cases hp : pos < s.size
    · have H1 := Lib.hid (fun h => digB_no hp h)
      have H2 := Lib.hid (fun h1 h2 => digTo_succ hp hd h1 h2)
      have HD := Lib.hid (decode_digit s pos hp)
      have hle := decode_le s pos
      clear hd
      have hnx : ∀ ty, (Instr.next (.pointer (some ⟨w.heap.size, 0, none⟩)) true ty).run Tryd.prog (w.iter s pos) = _ := fun ty => run_next_any w s pos ty hp
      go_wp2_with (go_at_call 62; refine (is_digit _ _ (by omega) (by omega)).mono ?_; rintro e w' ⟨rfl, rfl⟩)
      · have hw : ¬ (48 ≤ (Utf8.decode s pos).1 ∧ (Utf8.decode s pos).1 ≤ 57) := by rename_i h; simp only [Bool.not_eq_true', decide_eq_false_iff_not] at h; omega
        go_ret
        exact ⟨ret_bool (by rw [H1.out (by have := HD.out.1; omega)]), (Below.refl _ w).alloc (Nat.le_refl _) _⟩
      · have hw : 48 ≤ (Utf8.decode s pos).1 ∧ (Utf8.decode s pos).1 ≤ 57 := by rename_i h; simp only [Bool.not_eq_false', decide_eq_true_eq] at h; omega
        have hb := HD.out.1.1 hw
        have h1 := HD.out.2 (by omega)
        go_roundw
        case rel => exact ⟨pos + 1, by omega, by rw [h1], H2.out hb.1 hb.2⟩
        case measure => simp; omega
    · have hks : pos = s.size := by omega
      have H := Lib.hid (digB_end (hks ▸ hd))
      clear hd
      subst hks
      have hnx : ∀ ty, (Instr.next (.pointer (some ⟨w.heap.size, 0, none⟩)) true ty).run Tryd.prog (w.iter s s.size) = _ := fun ty => run_next_end w s s.size ty hp
      go_wp2
      go_ret
      exact ⟨ret_bool (by rw [H.out]; exact nonempty_eq s), (Below.refl _ w).alloc (Nat.le_refl _) _⟩


end Go.Proofs.YtofmpfcbdemcnaaDoor
