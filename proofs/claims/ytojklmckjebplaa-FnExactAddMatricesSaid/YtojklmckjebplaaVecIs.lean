/- IsVector and isTooLarge of the program, l05Nil of the model (RatOk's contract open). -/
import Derived.Test.YtojklmckjebplaaVecFine
namespace Go.Proofs.Ytojklmckjebplaa
open Go.RowKit Go.WideShapes Go.ChangeShapes
set_option linter.unusedVariables false
set_option maxHeartbeats 1000000 in
theorem impl_isVectorH (ok : Bool → List Int → List Int → Bool)
    (HOK : ∀ b v zs d ds w, RowR w v zs d ds → Calls Try.prog 88 #[.agg #[.bool b, v, d]] w fun r w' => r = .returned (.bool (ok b zs ds)) ∧ Below w.heap.size w w')
    (v : Value) (L : List Fr) (w : World) (h : RatsAt w v L) :
    Calls Try.prog 55 #[v] w fun e w' => e = .returned (.bool (vecB ok L)) ∧ Below w.heap.size w w' := by
  have H := Lib.hid h
  obtain ⟨a, cap, rfl, hc, hm, hr⟩ := h
  unfold maxLen at hm
  obtain ⟨n, hnn⟩ : ∃ n, L.length = n := ⟨_, rfl⟩
  have R := Lib.hid hr
  clear hr
  rw [hnn] at hc H ⊢
  have HN := Lib.hid hnn
  clear hnn
  obtain ⟨r, hr⟩ : ∃ r, r = vecB ok L := ⟨_, rfl⟩
  rw [← hr]
  have HR := Lib.hid hr
  clear hr
  by_cases h24 : n ≤ 24
  · go_enter Try.func55, Try.ntmps55
    go_wp2_with fail
    have HB := Lib.hid (Below.refl w.heap.size w)
    go_loopw [10] (fun iv wr => ∃ k : Nat, k ≤ n ∧ iv = .int .i64 k ∧ Hid ((L.take k).all (fun f => ok f.neg f.mag f.den) = true) ∧ Hid (Below w.heap.size w wr)) (fun iv _ => n - (intOf iv).toNat)
    case atStart => exact ⟨0, Nat.zero_le _, rfl, Lib.hid (by simp), HB⟩
    case round =>
      obtain ⟨k, hk, rfl, HA, HBk⟩ := hrel
      by_cases hlt : k < n
      · have hltL : k < L.length := by rw [HN.out]; exact hlt
        obtain ⟨b, o, x, y, rfl, c0, c1, c2, hrr⟩ := R.out k hltL
        have d0 := (HBk.out.cell (World.block_lt_of_cell? w _ c0)).trans c0
        have d1 := (HBk.out.cell (World.block_lt_of_cell? w _ c1)).trans c1
        have d2 := (HBk.out.cell (World.block_lt_of_cell? w _ c2)).trans c2
        have RR := Lib.hid (hrr.below HBk.out)
        obtain ⟨a1, r1, a2, r2, rfl, rfl, hz1, hz2⟩ := rowR_len hrr
        clear c0 c1 c2 R hrr
        cases hq : ok (L[k]'hltL).neg (L[k]'hltL).mag (L[k]'hltL).den with
        | true =>
          have HQ := Lib.hid hq
          go_wp2_with fail
          have bA := (Below.refl wr.heap.size wr).alloc (Nat.le_refl _) (.cells #[.bool (L[k]'hltL).neg, .slice a1 (L[k]'hltL).mag.length r1, .slice a2 (L[k]'hltL).den.length r2] 42)
          have T := HOK (L[k]'hltL).neg _ _ _ _ _ (RR.out.below bA)
          rw [hq] at T
          refine T.mono ?_
          rintro e w1 ⟨rfl, b1⟩
          have BB := Lib.hid (HBk.out.trans ((bA.trans (b1.mono (by simp))).mono HBk.out.size))
          clear b1 T bA
          go_wp2_with fail
          exact ⟨⟨k + 1, by omega, by go_num, Lib.hid (by rw [all_take hltL, HA.out, hq]; rfl), BB⟩, by simp [intOf]; omega⟩
        | false =>
          go_wp2_with fail
          have bA := (Below.refl wr.heap.size wr).alloc (Nat.le_refl _) (.cells #[.bool (L[k]'hltL).neg, .slice a1 (L[k]'hltL).mag.length r1, .slice a2 (L[k]'hltL).den.length r2] 42)
          have T := HOK (L[k]'hltL).neg _ _ _ _ _ (RR.out.below bA)
          rw [hq] at T
          refine T.mono ?_
          rintro e w1 ⟨rfl, b1⟩
          have BB := Lib.hid (HBk.out.trans ((bA.trans (b1.mono (by simp))).mono HBk.out.size))
          clear b1 T bA
          go_wp2_with fail
          go_ret
          have h1 := HR.out
          rw [vecB, all_no hltL hq, Bool.and_false] at h1
          exact ⟨by rw [h1]; rfl, BB.out⟩
      · obtain rfl : k = n := by omega
        go_wp2
        go_ret
        have h1 := HR.out
        have h2 := HA.out
        rw [← HN.out, List.take_length] at h2
        rw [vecB, HN.out, h2, decide_eq_true h24] at h1
        exact ⟨by rw [h1]; rfl, HBk.out⟩
  · go_enter Try.func55, Try.ntmps55
    go_wp2
    go_ret
    have h1 := HR.out
    rw [vecB, HN.out, decide_eq_false h24] at h1
    exact ⟨by rw [h1]; rfl, Below.refl _ _⟩

theorem impl_tooLarge (b : Bool) (v : Value) (zs : List Int) (d : Value) (ds : List Int) (w : World) (h : RowR w v zs d ds) :
    Calls Try.prog 104 #[.agg #[.bool b, v, d]] w fun r w' => r = .returned (.bool (decide (ds.length = 0))) ∧ Below w.heap.size w w' := by
  obtain ⟨a, c, e, f, rfl, rfl, h1, h2⟩ := rowR_len h
  go_enter Try.func104, Try.ntmps104
  go_wp2
  go_ret
  exact ⟨congrArg (fun q => Ending.returned (Value.bool q)) (Bool.eq_iff_iff.2 (by simp)), (Below.refl w.heap.size w).alloc (Nat.le_refl _) _⟩
end Go.Proofs.Ytojklmckjebplaa
