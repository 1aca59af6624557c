/- IsName of the program and IsName of the model both tell whether a string has 1 to 8 bytes, the first a small letter and the others small letters or digits. -/
import Derived.Test.YtmjbnbabhgngpaaDoorDigits
namespace Go.Proofs.YtmjbnbabhgngpaaDoor
open Go.RowKit

/-- the byte at place k may stand there -/
def NmAt (k : Nat) (c : UInt8) : Prop := (97 ≤ c.toNat ∧ c.toNat ≤ 122) ∨ (k ≠ 0 ∧ 48 ≤ c.toNat ∧ c.toNat ≤ 57)
def NmTo (s : ByteArray) (k : Nat) : Prop := ∀ j (h : j < s.size), j < k → NmAt j (s[j]'h)
theorem nmTo_zero (s : ByteArray) : NmTo s 0 := fun _ _ h => absurd h (by omega)
theorem nmTo_succ {s : ByteArray} {k : Nat} (hk : k < s.size) (h : NmTo s k) (h1 : NmAt k (s[k]'hk)) : NmTo s (k + 1) := by
  intro j hj hjk
  by_cases e : j = k
  · subst e; exact h1
  · exact h j hj (by omega)
noncomputable def nameB (s : ByteArray) : Bool := @decide (NmTo s s.size ∧ 1 ≤ s.size ∧ s.size ≤ 8) (Classical.propDecidable _)
theorem nameB_no {s : ByteArray} {k : Nat} (hk : k < s.size) (h : ¬ NmAt k (s[k]'hk)) : nameB s = false := by
  unfold nameB
  rw [decide_eq_false_iff_not]
  exact fun h' => h (h'.1 k hk hk)
theorem nameB_out {s : ByteArray} (h : ¬ (1 ≤ s.size ∧ s.size ≤ 8)) : nameB s = false := by
  unfold nameB
  rw [decide_eq_false_iff_not]
  exact fun h' => h h'.2
theorem nameB_end {s : ByteArray} (h : NmTo s s.size) : nameB s = decide (1 ≤ s.size ∧ s.size ≤ 8) := by
  unfold nameB
  rw [decide_eq_decide]
  exact ⟨fun h' => h'.2, fun h' => ⟨h, h'⟩⟩

theorem nameB_no' {s : ByteArray} {k c : Nat} (hk : k < s.size) (hc : (s[k]'hk).toNat = c) (h : ¬ ((97 ≤ c ∧ c ≤ 122) ∨ (k ≠ 0 ∧ 48 ≤ c ∧ c ≤ 57))) : nameB s = false := nameB_no hk (by unfold NmAt; rw [hc]; exact h)
theorem nmTo_succ' {s : ByteArray} {k c : Nat} (hk : k < s.size) (hc : (s[k]'hk).toNat = c) (hd : NmTo s k) (h : (97 ≤ c ∧ c ≤ 122) ∨ (k ≠ 0 ∧ 48 ≤ c ∧ c ≤ 57)) : NmTo s (k + 1) := nmTo_succ hk hd (by unfold NmAt; rw [hc]; exact h)
theorem size18 (n : Nat) : (decide (1 ≤ (n : Int)) && decide ((n : Int) ≤ 8)) = decide (1 ≤ n ∧ n ≤ 8) := by
  rw [Bool.eq_iff_iff]; simp; omega

theorem is_letter (c : Int) (w : World) (h0 : 0 ≤ c) (h1 : c ≤ 2147483647) :
    Calls Tryd.prog 24 #[.int .i32 c] w fun e w' => e = .returned (.bool (decide (97 ≤ c ∧ c ≤ 122))) ∧ w' = w := by
  by_cases a : 97 ≤ c
  · by_cases b : c ≤ 122
    all_goals
      go_enter Tryd.func24, Tryd.ntmps24
      go_wp2
      go_ret
      exact ⟨ret_bool (by simp; omega), rfl⟩
  · go_enter Tryd.func24, Tryd.ntmps24
    go_wp2
    go_ret
    exact ⟨ret_bool (by simp; omega), rfl⟩
theorem is_letter_yes (c : Int) (w : World) (h0 : 97 ≤ c) (h1 : c ≤ 122) :
    Calls Tryd.prog 24 #[.int .i32 c] w fun e w' => e = .returned (.bool true) ∧ w' = w :=
  (is_letter c w (by omega) (by omega)).mono fun _ _ ⟨h, h'⟩ => ⟨by rw [h]; exact ret_bool (by simp; omega), h'⟩
theorem is_letter_no (c : Int) (w : World) (h0 : 0 ≤ c) (h1 : c ≤ 2147483647) (h2 : ¬ (97 ≤ c ∧ c ≤ 122)) :
    Calls Tryd.prog 24 #[.int .i32 c] w fun e w' => e = .returned (.bool false) ∧ w' = w :=
  (is_letter c w h0 h1).mono fun _ _ ⟨h, h'⟩ => ⟨by rw [h]; exact ret_bool (by simp; omega), h'⟩
theorem is_digit_yes (c : Int) (w : World) (h0 : 48 ≤ c) (h1 : c ≤ 57) :
    Calls Tryd.prog 25 #[.int .i32 c] w fun e w' => e = .returned (.bool true) ∧ w' = w :=
  (is_digit c w (by omega) (by omega)).mono fun _ _ ⟨h, h'⟩ => ⟨by rw [h]; exact ret_bool (by simp; omega), h'⟩
theorem is_digit_no (c : Int) (w : World) (h0 : 0 ≤ c) (h1 : c ≤ 2147483647) (h2 : ¬ (48 ≤ c ∧ c ≤ 57)) :
    Calls Tryd.prog 25 #[.int .i32 c] w fun e w' => e = .returned (.bool false) ∧ w' = w :=
  (is_digit c w h0 h1).mono fun _ _ ⟨h, h'⟩ => ⟨by rw [h]; exact ret_bool (by simp; omega), h'⟩

theorem name_yes {s : ByteArray} {p r wd : Nat} (hp : p < s.size) (hD : ((s[p]'hp).toNat < 128 → (r, wd) = ((s[p]'hp).toNat, 1)) ∧ (128 ≤ (s[p]'hp).toNat → 128 ≤ (r, wd).1)) (h2 : NmAt p (s[p]'hp) → NmTo s (p + 1)) :
    ((97 ≤ r ∧ r ≤ 122) ∨ (p ≠ 0 ∧ 48 ≤ r ∧ r ≤ 57) → NmTo s (p + 1)) ∧ (r < 128 → wd = 1) := by
  by_cases hb : (s[p]'hp).toNat < 128
  · have h := hD.1 hb
    simp only [Prod.mk.injEq] at h
    exact ⟨fun h' => h2 (by unfold NmAt; rw [← h.1]; exact h'), fun _ => h.2⟩
  · have h := hD.2 (by omega)
    simp only at h
    exact ⟨fun h' => by omega, fun h' => by omega⟩
theorem name_no {s : ByteArray} {p r wd : Nat} (hp : p < s.size) (hD : ((s[p]'hp).toNat < 128 → (r, wd) = ((s[p]'hp).toNat, 1)) ∧ (128 ≤ (s[p]'hp).toNat → 128 ≤ (r, wd).1)) (h1 : ¬ NmAt p (s[p]'hp) → nameB s = false)
    (h : ¬ ((97 ≤ r ∧ r ≤ 122) ∨ (p ≠ 0 ∧ 48 ≤ r ∧ r ≤ 57))) : nameB s = false := by
  apply h1
  intro h'
  have hb : (s[p]'hp).toNat < 128 := by unfold NmAt at h'; omega
  have e := hD.1 hb
  simp only [Prod.mk.injEq] at e
  unfold NmAt at h'
  rw [← e.1] at h'
  exact h h'

set_option maxHeartbeats 1000000 in
theorem impl_isName (s : ByteArray) (w : World) (hs : s.size ≤ maxLen) :
    Calls Tryd.prog 12 #[.string s] w fun e w' => e = .returned (.bool (nameB s)) ∧ Below w.heap.size w w' := by
  unfold maxLen at hs
  by_cases hn : s.size < 1
  · have H := Lib.hid (nameB_out (s := s) (by omega))
    go_enter Tryd.func12, Tryd.ntmps12
    go_wp2
    go_ret
    exact ⟨ret_bool (by rw [H.out]), Below.refl _ _⟩
  by_cases hn2 : 8 < s.size
  · have H := Lib.hid (nameB_out (s := s) (by omega))
    go_enter Tryd.func12, Tryd.ntmps12
    go_wp2
    go_ret
    exact ⟨ret_bool (by rw [H.out]), Below.refl _ _⟩
  go_enter Tryd.func12, Tryd.ntmps12
  go_wp2
  go_loopw [] (fun w' => ∃ pos : Nat, pos ≤ s.size ∧ w' = w.iter s pos ∧ NmTo s pos) (fun w' => s.size - w'.iterPos w.heap.size)
  case atStart => exact ⟨0, Nat.zero_le _, rfl, nmTo_zero s⟩
  case round =>
    obtain ⟨pos, hk, rfl, hd⟩ := hrel
    by_cases hp : pos < s.size
    · have H1 := Lib.hid (fun h => nameB_no hp h)
      have H2 := Lib.hid (fun h1 => nmTo_succ hp hd h1)
      have hD := decode_byte s pos hp
      have hle := decode_le s pos
      clear hd
      have hnx : ∀ ty, (Instr.next (.pointer (some ⟨w.heap.size, 0, none⟩)) true ty).run Tryd.prog (w.iter s pos) = _ := fun ty => run_next_any w s pos ty hp
      obtain ⟨r, wd, hr⟩ : ∃ r wd, Utf8.decode s pos = (r, wd) := ⟨_, _, rfl⟩
      rw [hr] at hD hle hnx
      clear hr
      have HY := Lib.hid (name_yes hp hD H2.out)
      have HN := Lib.hid (name_no hp hD H1.out)
      clear hD H1 H2
      by_cases hk0 : pos = 0
      · have hz : ((pos : Int) == 0) = true := by simp; omega
        have H0 := Lib.hid hk0
        clear hk0
        by_cases hc : 97 ≤ r ∧ r ≤ 122
        · go_wp2_with (go_at_call 24; refine (is_letter_yes _ _ (by omega) (by omega)).mono ?_; rintro e w' ⟨rfl, rfl⟩)
          go_roundw
          case rel => exact ⟨pos + 1, by omega, by rw [HY.out.2 (by omega)], HY.out.1 (by omega)⟩
          case measure => simp; have := HY.out.2 (by omega); omega
        · go_wp2_with (go_at_call 24; refine (is_letter_no _ _ (by omega) (by omega) (by omega)).mono ?_; rintro e w' ⟨rfl, rfl⟩)
          go_ret
          exact ⟨ret_bool (by rw [HN.out (by have := H0.out; omega)]), (Below.refl _ w).alloc (Nat.le_refl _) _⟩
      · have hz : ((pos : Int) == 0) = false := by simp; omega
        by_cases hc : 97 ≤ r ∧ r ≤ 122
        · go_wp2_with (go_at_call 24; refine (is_letter_yes _ _ (by omega) (by omega)).mono ?_; rintro e w' ⟨rfl, rfl⟩)
          go_roundw
          case rel => exact ⟨pos + 1, by omega, by rw [HY.out.2 (by omega)], HY.out.1 (by omega)⟩
          case measure => simp; have := HY.out.2 (by omega); omega
        by_cases hc2 : 48 ≤ r ∧ r ≤ 57
        · go_wp2_with (first | (go_at_call 24; refine (is_letter_no _ _ (by omega) (by omega) (by omega)).mono ?_; rintro e w' ⟨rfl, rfl⟩) | (go_at_call 25; refine (is_digit_yes _ _ (by omega) (by omega)).mono ?_; rintro e w' ⟨rfl, rfl⟩))
          go_roundw
          case rel => exact ⟨pos + 1, by omega, by rw [HY.out.2 (by omega)], HY.out.1 (by omega)⟩
          case measure => simp; have := HY.out.2 (by omega); omega
        · go_wp2_with (first | (go_at_call 24; refine (is_letter_no _ _ (by omega) (by omega) (by omega)).mono ?_; rintro e w' ⟨rfl, rfl⟩) | (go_at_call 25; refine (is_digit_no _ _ (by omega) (by omega) (by omega)).mono ?_; rintro e w' ⟨rfl, rfl⟩))
          go_ret
          exact ⟨ret_bool (by rw [HN.out (by omega)]), (Below.refl _ w).alloc (Nat.le_refl _) _⟩
    · have hks : pos = s.size := by omega
      have H := Lib.hid (nameB_end (hks ▸ hd))
      clear hd
      subst hks
      have hnx : ∀ ty, (Instr.next (.pointer (some ⟨w.heap.size, 0, none⟩)) true ty).run Tryd.prog (w.iter s s.size) = _ := fun ty => run_next_end w s s.size ty hp
      go_wp2
      go_ret
      exact ⟨ret_bool (by rw [H.out]; simp; omega), (Below.refl _ w).alloc (Nat.le_refl _) _⟩


end Go.Proofs.YtmjbnbabhgngpaaDoor
