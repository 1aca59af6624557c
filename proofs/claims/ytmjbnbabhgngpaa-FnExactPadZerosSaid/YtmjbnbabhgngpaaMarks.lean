/- The marks that the exact laws write into a result and read again: markText tells one mark for each number. -/
import Derived.Test.YtmjbnbabhgngpaaDigits
import Derived.Lib.Strings
namespace Go.Proofs.Ytmjbnbabhgngpaa
open Go.RowKit

/-- the decimal digits of n, none for 0 -/
def markD (n : Nat) : List UInt8 := if h : n = 0 then [] else markD (n / 10) ++ [48 + UInt8.ofNat (n % 10)]
termination_by n
decreasing_by omega
theorem markD_zero : markD 0 = [] := by rw [markD]; simp
theorem markD_pos {n : Nat} (h : 0 < n) : markD n = markD (n / 10) ++ [48 + UInt8.ofNat (n % 10)] := by
  rw [markD, dif_neg (by omega)]
theorem markD_len : ∀ d n, n < 10 ^ d → (markD n).length ≤ d
  | 0, n, h => by
    have : n = 0 := by simpa using h
    subst this; rw [markD_zero]; simp
  | d + 1, n, h => by
    by_cases e : n = 0
    · subst e; rw [markD_zero]; simp
    · rw [markD_pos (by omega), List.length_append]
      have := markD_len d (n / 10) (by rw [Nat.pow_succ] at h; omega)
      simp; omega
def markT (k : Int) : ByteArray := if k ≤ 0 then ⟨#[109, 48]⟩ else ⟨(109 :: markD k.toNat).toArray⟩
theorem mark_bytes (out l : List UInt8) (h : out = l) : Value.string ⟨out.toArray⟩ = Value.string ⟨l.toArray⟩ := by rw [h]

/-- 'string([]byte{x})': the string of that one byte -/
theorem one_byte_string (w : World) (x : Int) (h0 : 0 ≤ x) (h1 : x ≤ 255) :
    (convert 39 9 (.slice (some ⟨w.heap.size, 0, none⟩) 1 1)).run Try.prog (w.alloc (.cells #[.int .u8 x] 5)) = .ok (.string ⟨#[UInt8.ofNat x.toNat]⟩) (w.alloc (.cells #[.int .u8 x] 5)) := by
  have e : ((UInt8.ofNat x.toNat).toNat : Int) = x := by
    rw [UInt8.toNat_ofNat']; omega
  refine run_convert_bytes_back _ _ _ 5 _ 1 [UInt8.ofNat x.toNat] Try.underlying39 Try.underlying5 Try.underlying9 ?_
  intro j hj
  obtain rfl : j = 0 := by simpa using hj
  simp only [List.getElem_cons_zero, e]
  exact cell_one_new _ _ _ 0 _ rfl

set_option maxHeartbeats 400000 in
theorem mark_text (k : Int) (w : World) (h0 : -9223372036854775808 ≤ k) (h1 : k ≤ 9223372036854775807) :
    Calls Try.prog 29 #[.int .i64 k] w fun e w' => e = .returned (.string (markT k)) ∧ Below w.heap.size w w' := by
  by_cases hk : k ≤ 0
  · have H := Lib.hid (show markT k = ⟨#[109, 48]⟩ by unfold markT; rw [if_pos hk])
    go_enter Try.func29, Try.ntmps29
    go_wp2
    go_ret
    exact ⟨by rw [H.out]; rfl, Below.refl _ _⟩
  · obtain ⟨n, rfl⟩ := Int.eq_ofNat_of_zero_le (show 0 ≤ k by omega)
    have HL := Lib.hid (markD_len 19 n (by omega))
    have H := Lib.hid (show markT n = ⟨(109 :: markD n).toArray⟩ by unfold markT; rw [if_neg hk, Int.toNat_natCast])
    go_enter Try.func29, Try.ntmps29
    go_wp2
    go_loopw [0, 3] (fun kv ov wr => ∃ (m : Nat) (out : List UInt8), m ≤ n ∧ kv = .int .i64 m ∧ ov = .string ⟨out.toArray⟩ ∧ Hid (markD m ++ out = markD n) ∧ out.length ≤ 19 ∧ Below w.heap.size w wr) (fun kv _ _ => (intOf kv).toNat)
    case atStart => exact ⟨n, [], Nat.le_refl _, rfl, rfl, by unfold Hid; simp, by simp, Below.refl _ _⟩
    case round =>
      obtain ⟨m, out, hm, rfl, rfl, HD, ho, hb⟩ := hrel
      by_cases hp : 0 < m
      · have hcv := one_byte_string wr (48 + (m : Int) % 10) (by omega) (by omega)
        have HS := Lib.hid (markD_pos hp)
        have HL2 := Lib.hid (markD_len 19 m (by omega))
        go_wp2
        go_roundw
        case rel =>
          refine ⟨m / 10, (48 + UInt8.ofNat (m % 10)) :: out, by omega, by go_num, ?_, ?_, ?_, hb.alloc (by have := hb.size; omega) _⟩
          · rw [show (⟨#[48 + UInt8.ofNat (m % 10)]⟩ : ByteArray) = ⟨[48 + UInt8.ofNat (m % 10)].toArray⟩ from rfl, ByteArray.mk_append_mk]; rfl
          · have h := HD.out
            rw [HS.out, List.append_assoc] at h
            exact h
          · have h := congrArg List.length HD.out
            rw [HS.out] at h
            simp at h
            have := HL.out
            simp; omega
        case measure => simp [intOf]; omega
      · obtain rfl : m = 0 := by omega
        go_wp2
        go_ret
        refine ⟨?_, hb⟩
        have h := HD.out
        rw [markD_zero, List.nil_append] at h
        rw [H.out, ← h]
        exact congrArg (fun b => Ending.returned (Value.string b)) (ByteArray.mk_append_mk [109] out)

end Go.Proofs.Ytmjbnbabhgngpaa
