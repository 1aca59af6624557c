/- The exact law of NatToInt. -/
import Derived.Test.YtofmpfcbdemcnaaDoorCmpLaw
namespace Go.Proofs.YtofmpfcbdemcnaaDoor
open Go.RowKit

theorem limI_max : limI 9223372036854775807 = [854775807, 223372036, 9] := by
  have h : nlen 9223372036854775807 = 2 + 1 := nlen_eq (by simp only [pw]; omega) (by simp only [pw]; omega)
  unfold limI
  rw [h]
  simp [listF, List.range_succ, dig, pw]
def natToIntV (zs : List Int) : Value := if okB zs then intR (natI zs) else .tuple #[.int .i64 0, .bool false]
theorem natToIntV_yes {x : Nat} (hx : x < pw 60) : natToIntV (limI x) = intR x := by unfold natToIntV; rw [okB_limI hx, natI_limI]; rfl
theorem natToIntV_no {zs : List Int} (h : okB zs = false) : natToIntV zs = .tuple #[.int .i64 0, .bool false] := by unfold natToIntV; rw [h]; rfl
theorem intR_form (x : Nat) : ∃ r b, intR x = .tuple #[.int .i64 r, .bool b] := ⟨_, _, rfl⟩
theorem natToIntV_form (zs : List Int) : ∃ r b, natToIntV zs = .tuple #[.int .i64 r, .bool b] := by
  unfold natToIntV; split
  · exact intR_form _
  · exact ⟨_, _, rfl⟩

theorem toInt_step {x j m : Nat} (h : m = x / pw (j + 1)) : m * 1000000000 + dig x j = x / pw j := by rw [h, ← div_step]

end Go.Proofs.YtofmpfcbdemcnaaDoor
