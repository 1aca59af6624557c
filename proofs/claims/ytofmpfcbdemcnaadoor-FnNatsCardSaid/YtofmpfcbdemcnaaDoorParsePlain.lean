/- Plain facts on decimal digits: what a row of digits tells, and that a number is recovered from its digits. -/
import Derived.Lib.ItoaNum
import Derived.Lib.ItoaLen
import Derived.Lib.AtoiAll
namespace Go.Proofs.YtofmpfcbdemcnaaDoor

def dStep (a : Nat) (c : UInt8) : Nat := a * 10 + (c.toNat - 48)
def dv (l : List UInt8) : Nat := l.foldl dStep 0
def AllDig (l : List UInt8) : Prop := ∀ c ∈ l, 48 ≤ c.toNat ∧ c.toNat ≤ 57
theorem dv_snoc (l : List UInt8) (c : UInt8) : dv (l ++ [c]) = dv l * 10 + (c.toNat - 48) := by simp [dv, dStep]
theorem fold_le : ∀ (l : List UInt8) (a : Nat), a ≤ l.foldl dStep a
  | [], a => Nat.le_refl a
  | c :: r, a => by
    have := fold_le r (dStep a c)
    simp only [List.foldl_cons]
    have h : a ≤ dStep a c := by unfold dStep; omega
    omega
theorem dv_take (l : List UInt8) (k : Nat) : dv (l.take k) ≤ dv l := by
  have : dv l = (l.drop k).foldl dStep (dv (l.take k)) := by
    unfold dv; rw [← List.foldl_append, List.take_append_drop]
  rw [this]; exact fold_le _ _
theorem digit_nat (d : Nat) (h : d < 10) : (UInt8.ofNat (48 + d)).toNat = 48 + d := by
  rw [UInt8.toNat_ofNat']; omega
theorem dec_all (n : Nat) : AllDig (Lib.decDigits n) ∧ dv (Lib.decDigits n) = n ∧ Lib.decDigits n ≠ [] := by
  induction n using Nat.strongRecOn with
  | _ n ih =>
    by_cases h : n < 10
    · rw [Lib.decDigits, dif_pos h]
      refine ⟨fun c hc => ?_, ?_, by simp⟩
      · obtain rfl : c = UInt8.ofNat (48 + n) := by simpa using hc
        rw [digit_nat n h]; omega
      · show 0 * 10 + ((UInt8.ofNat (48 + n)).toNat - 48) = n
        rw [digit_nat n h]; omega
    · rw [Lib.decDigits, dif_neg h]
      have ih' := ih (n / 10) (by omega)
      refine ⟨fun c hc => ?_, ?_, by simp⟩
      · rcases List.mem_append.1 hc with hc | hc
        · exact ih'.1 c hc
        · obtain rfl : c = UInt8.ofNat (48 + n % 10) := by simpa using hc
          rw [digit_nat _ (by omega)]; omega
      · rw [dv_snoc, ih'.2.1, digit_nat _ (by omega)]; omega
theorem parse_fold : ∀ (l : List UInt8) (a : Nat), AllDig l → l.foldl dStep a < 18446744073709551616 → Lib.parseUint10 a l = .ok (l.foldl dStep a)
  | [], a, _, _ => rfl
  | c :: r, a, hd, hb => by
    have hc := hd c (by simp)
    simp only [List.foldl_cons] at hb ⊢
    have h1 := fold_le r (dStep a c)
    have h2 : dStep a c = a * 10 + (c.toNat - 48) := rfl
    rw [Lib.parseUint10, if_pos hc, if_neg (by omega), if_neg (by omega), ← h2]
    exact parse_fold r _ (fun x hx => hd x (by simp [hx])) hb
theorem parse_dec (n : Nat) (h : n < 18446744073709551616) : Lib.parseMag (Lib.decDigits n) = .ok n := by
  obtain ⟨h1, h2, h3⟩ := dec_all n
  unfold Lib.parseMag
  rw [if_neg h3, parse_fold _ 0 h1 (by unfold dv at h2; omega)]
  exact congrArg _ h2
/-- s is the text of the int n -/
def TextOf (l : List UInt8) (n : Int) : Prop := -9223372036854775808 ≤ n ∧ n ≤ 9223372036854775807 ∧ Lib.itoa n = l
theorem itoa_cases {l : List UInt8} {n : Int} (h : TextOf l n) : (∃ m : Nat, n = m ∧ l = Lib.decDigits m ∧ m ≤ 9223372036854775807) ∨ (∃ m : Nat, n = -(m : Int) ∧ 0 < m ∧ l = 45 :: Lib.decDigits m ∧ m ≤ 9223372036854775808) := by
  obtain ⟨h0, h1, rfl⟩ := h
  unfold Lib.itoa
  by_cases hn : n < 0
  · right
    rw [if_pos hn]
    exact ⟨n.natAbs, by omega, by omega, rfl, by omega⟩
  · left
    rw [if_neg hn]
    exact ⟨n.toNat, by omega, rfl, by omega⟩
theorem atoi_text {l : List UInt8} {n : Int} (h : TextOf l n) : Lib.atoiAll l = .ok n := by
  rcases itoa_cases h with ⟨m, rfl, rfl, hm⟩ | ⟨m, rfl, h0, rfl, hm⟩
  · have hp := parse_dec m (by omega)
    obtain ⟨hd, _, hne⟩ := dec_all m
    cases hl : Lib.decDigits m with
    | nil => exact absurd hl hne
    | cons c r =>
      have hc := hd c (by rw [hl]; simp)
      rw [hl] at hp
      unfold Lib.atoiAll
      simp only
      rw [if_neg (show ¬ (c.toNat = 43 ∨ c.toNat = 45) by omega), hp]
      simp only
      rw [if_neg (by omega), if_neg (by omega), if_neg (by omega)]
  · have hp := parse_dec m (by omega)
    unfold Lib.atoiAll
    simp only
    rw [if_pos (show ((45 : UInt8).toNat = 43 ∨ (45 : UInt8).toNat = 45) from .inr rfl), hp]
    simp only
    rw [if_neg (by intro h; exact h.1 rfl), if_neg (by intro h; omega)]
    exact congrArg _ (if_pos (show (45 : UInt8).toNat = 45 from rfl))
theorem text_inj {l : List UInt8} {n m : Int} (h : TextOf l n) (h' : TextOf l m) : n = m := by
  have e := atoi_text h
  rw [atoi_text h'] at e
  injection e with e
  exact e.symm

end Go.Proofs.YtofmpfcbdemcnaaDoor
