/- The marks that the exact laws write into a result and read again: markText tells one mark for each number. -/
import Derived.Test.YtofmpfcbdemcnaaDoorDigits
import Derived.Lib.Strings
namespace Go.Proofs.YtofmpfcbdemcnaaDoor
open Go.RowKit

/-- the decimal digits of n, none for 0 -/
def markD (n : Nat) : List UInt8 := if h : n = 0 then [] else markD (n / 10) ++ [48 + UInt8.ofNat (n % 10)]
termination_by n
decreasing_by omega
theorem markD_zero : markD 0 = [] := by rw [markD]; simp
theorem markD_pos {n : Nat} (h : 0 < n) : markD n = markD (n / 10) ++ [48 + UInt8.ofNat (n % 10)] := by
  rw [markD, dif_neg (by omega)]
theorem markD_len : ∀ d n, n < 10 ^ d → (markD n).length ≤ d
  | 0, n, h => by
    have : n = 0 := by simpa using h
    subst this; rw [markD_zero]; simp
  | d + 1, n, h => by
    by_cases e : n = 0
    · subst e; rw [markD_zero]; simp
    · rw [markD_pos (by omega), List.length_append]
      have := markD_len d (n / 10) (by rw [Nat.pow_succ] at h; omega)
      simp; omega
def markT (k : Int) : ByteArray := if k ≤ 0 then ⟨#[109, 48]⟩ else ⟨(109 :: markD k.toNat).toArray⟩
theorem mark_bytes (out l : List UInt8) (h : out = l) : Value.string ⟨out.toArray⟩ = Value.string ⟨l.toArray⟩ := by rw [h]

/-- 'string([]byte{x})': the string of that one byte -/
theorem one_byte_string (w : World) (x : Int) (h0 : 0 ≤ x) (h1 : x ≤ 255) :
    (convert 22 9 (.slice (some ⟨w.heap.size, 0, none⟩) 1 1)).run Tryd.prog (w.alloc (.cells #[.int .u8 x] 5)) = .ok (.string ⟨#[UInt8.ofNat x.toNat]⟩) (w.alloc (.cells #[.int .u8 x] 5)) := by
  have e : ((UInt8.ofNat x.toNat).toNat : Int) = x := by
    rw [UInt8.toNat_ofNat']; omega
  refine run_convert_bytes_back _ _ _ 5 _ 1 [UInt8.ofNat x.toNat] Tryd.underlying22 Tryd.underlying5 Tryd.underlying9 ?_
  intro j hj
  obtain rfl : j = 0 := by simpa using hj
  simp only [List.getElem_cons_zero, e]
  exact cell_one_new _ _ _ 0 _ rfl

end Go.Proofs.YtofmpfcbdemcnaaDoor
