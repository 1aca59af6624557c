/- Small functions of the model over vectors: l05Bad, l05Fine, l05Done, l05Pair (IsVector's contract open). -/
import Derived.Test.YtojklmckjebplaaVecTry3
namespace Go.Proofs.Ytojklmckjebplaa
open Go.RowKit Go.WideShapes Go.ChangeShapes
set_option linter.unusedVariables false
def badF (f : Fr) : Bool := decide (f.den.length = 0)
def fineV (L : List Fr) : Bool := L.all (fun f => !badF f)
theorem spec_bad (b : Bool) (v : Value) (zs : List Int) (d : Value) (ds : List Int) (w : World) (h : RowR w v zs d ds) :
    Calls Try.prog 134 #[.agg #[.bool b, v, d]] w fun r w' => r = .returned (.bool (decide (ds.length = 0))) ∧ Below w.heap.size w w' := by
  obtain ⟨a, c, e, f, rfl, rfl, h1, h2⟩ := rowR_len h
  go_enter Try.func134, Try.ntmps134
  go_wp2
  go_ret
  exact ⟨congrArg (fun q => Ending.returned (Value.bool q)) (Bool.eq_iff_iff.2 (by simp)), (Below.refl w.heap.size w).alloc (Nat.le_refl _) _⟩
set_option maxHeartbeats 1000000 in
theorem spec_fine (v : Value) (L : List Fr) (w : World) (h : RatsAt w v L) :
    Calls Try.prog 103 #[v] w fun e w' => e = .returned (.bool (fineV L)) ∧ Below w.heap.size w w' := by
  obtain ⟨a, cap, rfl, hc, hm, hr⟩ := h
  unfold maxLen at hm
  obtain ⟨n, hnn⟩ : ∃ n, L.length = n := ⟨_, rfl⟩
  have R := Lib.hid hr
  clear hr
  rw [hnn] at hc ⊢
  have HN := Lib.hid hnn
  clear hnn
  obtain ⟨r, hr⟩ : ∃ r, r = fineV L := ⟨_, rfl⟩
  rw [← hr]
  have HR := Lib.hid hr
  clear hr
  go_enter Try.func103, Try.ntmps103
  go_wp2_with fail
  have HB := Lib.hid (Below.refl w.heap.size w)
  go_loopw [7] (fun iv wr => ∃ k : Nat, k ≤ n ∧ iv = .int .i64 k ∧ Hid ((L.take k).all (fun f => !badF f) = true) ∧ Hid (Below w.heap.size w wr)) (fun iv _ => n - (intOf iv).toNat)
  case atStart => exact ⟨0, Nat.zero_le _, rfl, Lib.hid (by simp), HB⟩
  case round =>
    obtain ⟨k, hk, rfl, HA, HBk⟩ := hrel
    by_cases hlt : k < n
    · have hltL : k < L.length := by rw [HN.out]; exact hlt
      obtain ⟨b, o, x, y, rfl, c0, c1, c2, hrr⟩ := R.out k hltL
      have d0 := (HBk.out.cell (World.block_lt_of_cell? w _ c0)).trans c0
      have d1 := (HBk.out.cell (World.block_lt_of_cell? w _ c1)).trans c1
      have d2 := (HBk.out.cell (World.block_lt_of_cell? w _ c2)).trans c2
      have RR := Lib.hid (hrr.below HBk.out)
      obtain ⟨a1, r1, a2, r2, rfl, rfl, hz1, hz2⟩ := rowR_len hrr
      clear c0 c1 c2 R hrr
      cases hq : badF (L[k]'hltL) with
      | false =>
        have hq2 : decide ((L[k]'hltL).den.length = 0) = false := hq
        go_wp2_with fail
        have bA := (Below.refl wr.heap.size wr).alloc (Nat.le_refl _) (.cells #[.bool (L[k]'hltL).neg, .slice a1 (L[k]'hltL).mag.length r1, .slice a2 (L[k]'hltL).den.length r2] 42)
        have T := spec_bad (L[k]'hltL).neg _ _ _ _ _ (RR.out.below bA)
        rw [hq2] at T
        refine T.mono ?_
        rintro e w1 ⟨rfl, b1⟩
        have BB := Lib.hid (HBk.out.trans ((bA.trans (b1.mono (by simp))).mono HBk.out.size))
        clear b1 T bA
        go_wp2_with fail
        exact ⟨⟨k + 1, by omega, by go_num, Lib.hid (by rw [all_take hltL, HA.out, hq]; rfl), BB⟩, by simp [intOf]; omega⟩
      | true =>
        have hq2 : decide ((L[k]'hltL).den.length = 0) = true := hq
        go_wp2_with fail
        have bA := (Below.refl wr.heap.size wr).alloc (Nat.le_refl _) (.cells #[.bool (L[k]'hltL).neg, .slice a1 (L[k]'hltL).mag.length r1, .slice a2 (L[k]'hltL).den.length r2] 42)
        have T := spec_bad (L[k]'hltL).neg _ _ _ _ _ (RR.out.below bA)
        rw [hq2] at T
        refine T.mono ?_
        rintro e w1 ⟨rfl, b1⟩
        have BB := Lib.hid (HBk.out.trans ((bA.trans (b1.mono (by simp))).mono HBk.out.size))
        clear b1 T bA
        go_wp2_with fail
        go_ret
        have h1 := HR.out
        rw [fineV, all_no hltL (by rw [hq]; rfl)] at h1
        exact ⟨by rw [h1]; rfl, BB.out⟩
    · obtain rfl : k = n := by omega
      go_wp2
      go_ret
      have h1 := HR.out
      have h2 := HA.out
      rw [← HN.out, List.take_length] at h2
      rw [fineV, h2] at h1
      exact ⟨by rw [h1]; rfl, HBk.out⟩
def pairV (ok : List Fr → Bool) (A B : List Fr) : Bool := ok A && (ok B && decide (A.length = B.length))
end Go.Proofs.Ytojklmckjebplaa
