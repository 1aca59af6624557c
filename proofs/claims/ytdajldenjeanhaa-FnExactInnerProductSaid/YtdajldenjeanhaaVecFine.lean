/- Small functions of the model over vectors: l05Bad, l05Fine, l05Done, l05Pair (IsVector's contract open). -/
import Derived.Test.YtdajldenjeanhaaVecTry3
namespace Go.Proofs.Ytdajldenjeanhaa
open Go.RowKit Go.WideShapes Go.ChangeShapes
set_option linter.unusedVariables false
def badF (f : Fr) : Bool := decide (f.den.length = 0)
def fineV (L : List Fr) : Bool := L.all (fun f => !badF f)
theorem spec_bad (b : Bool) (v : Value) (zs : List Int) (d : Value) (ds : List Int) (w : World) (h : RowR w v zs d ds) :
    Calls Try.prog 64 #[.agg #[.bool b, v, d]] w fun r w' => r = .returned (.bool (decide (ds.length = 0))) ∧ Below w.heap.size w w' := by
  obtain ⟨a, c, e, f, rfl, rfl, h1, h2⟩ := rowR_len h
  go_enter Try.func64, Try.ntmps64
  go_wp2
  go_ret
  exact ⟨congrArg (fun q => Ending.returned (Value.bool q)) (Bool.eq_iff_iff.2 (by simp)), (Below.refl w.heap.size w).alloc (Nat.le_refl _) _⟩
set_option maxHeartbeats 1000000 in
theorem spec_fine (v : Value) (L : List Fr) (w : World) (h : RatsAt w v L) :
    Calls Try.prog 86 #[v] w fun e w' => e = .returned (.bool (fineV L)) ∧ Below w.heap.size w w' := by
  obtain ⟨a, cap, rfl, hc, hm, hr⟩ := h
  unfold maxLen at hm
  obtain ⟨n, hnn⟩ : ∃ n, L.length = n := ⟨_, rfl⟩
  have R := Lib.hid hr
  clear hr
  rw [hnn] at hc ⊢
  have HN := Lib.hid hnn
  clear hnn
  obtain ⟨r, hr⟩ : ∃ r, r = fineV L := ⟨_, rfl⟩
  rw [← hr]
  have HR := Lib.hid hr
  clear hr
  go_enter Try.func86, Try.ntmps86
  go_wp2_with fail
  have HB := Lib.hid (Below.refl w.heap.size w)
  go_loopw [7] (fun iv wr => ∃ k : Nat, k ≤ n ∧ iv = .int .i64 k ∧ Hid ((L.take k).all (fun f => !badF f) = true) ∧ Hid (Below w.heap.size w wr)) (fun iv _ => n - (intOf iv).toNat)
  case atStart => exact ⟨0, Nat.zero_le _, rfl, Lib.hid (by simp), HB⟩
  case round =>
    obtain ⟨k, hk, rfl, HA, HBk⟩ := hrel
    by_cases hlt : k < n
    · have hltL : k < L.length := by rw [HN.out]; exact hlt
      obtain ⟨b, o, x, y, rfl, c0, c1, c2, hrr⟩ := R.out k hltL
      have d0 := (HBk.out.cell (World.block_lt_of_cell? w _ c0)).trans c0
      have d1 := (HBk.out.cell (World.block_lt_of_cell? w _ c1)).trans c1
      have d2 := (HBk.out.cell (World.block_lt_of_cell? w _ c2)).trans c2
      have RR := Lib.hid (hrr.below HBk.out)
      obtain ⟨a1, r1, a2, r2, rfl, rfl, hz1, hz2⟩ := rowR_len hrr
      clear c0 c1 c2 R hrr
      cases hq : badF (L[k]'hltL) with
      | false =>
        have hq2 : decide ((L[k]'hltL).den.length = 0) = false := hq
        go_wp2_with fail
        have bA := (Below.refl wr.heap.size wr).alloc (Nat.le_refl _) (.cells #[.bool (L[k]'hltL).neg, .slice a1 (L[k]'hltL).mag.length r1, .slice a2 (L[k]'hltL).den.length r2] 46)
        have T := spec_bad (L[k]'hltL).neg _ _ _ _ _ (RR.out.below bA)
        rw [hq2] at T
        refine T.mono ?_
        rintro e w1 ⟨rfl, b1⟩
        have BB := Lib.hid (HBk.out.trans ((bA.trans (b1.mono (by simp))).mono HBk.out.size))
        clear b1 T bA
        go_wp2_with fail
        exact ⟨⟨k + 1, by omega, by go_num, Lib.hid (by rw [all_take hltL, HA.out, hq]; rfl), BB⟩, by simp [intOf]; omega⟩
      | true =>
        have hq2 : decide ((L[k]'hltL).den.length = 0) = true := hq
        go_wp2_with fail
        have bA := (Below.refl wr.heap.size wr).alloc (Nat.le_refl _) (.cells #[.bool (L[k]'hltL).neg, .slice a1 (L[k]'hltL).mag.length r1, .slice a2 (L[k]'hltL).den.length r2] 46)
        have T := spec_bad (L[k]'hltL).neg _ _ _ _ _ (RR.out.below bA)
        rw [hq2] at T
        refine T.mono ?_
        rintro e w1 ⟨rfl, b1⟩
        have BB := Lib.hid (HBk.out.trans ((bA.trans (b1.mono (by simp))).mono HBk.out.size))
        clear b1 T bA
        go_wp2_with fail
        go_ret
        have h1 := HR.out
        rw [fineV, all_no hltL (by rw [hq]; rfl)] at h1
        exact ⟨by rw [h1]; rfl, BB.out⟩
    · obtain rfl : k = n := by omega
      go_wp2
      go_ret
      have h1 := HR.out
      have h2 := HA.out
      rw [← HN.out, List.take_length] at h2
      rw [fineV, h2] at h1
      exact ⟨by rw [h1]; rfl, HBk.out⟩
theorem spec_done (v : Value) (L : List Fr) (w : World) (h : RatsAt w v L) :
    Calls Try.prog 47 #[v] w fun e w' => e = .returned (.tuple #[if fineV L then v else .slice none 0 0, .bool (fineV L)]) ∧ Below w.heap.size w w' := by
  have T := spec_fine v L w h
  obtain ⟨a, cap, rfl, _⟩ := h
  cases hq : fineV L with
  | true =>
    rw [hq] at T
    go_enter Try.func47, Try.ntmps47
    go_wp2_with fail
    refine T.mono ?_
    rintro e w1 ⟨rfl, b1⟩
    go_wp2
    exact bodyPost_ret (v := .tuple #[.slice a L.length cap, .bool true]) (by simp [results, Try.results47, go_sem]) rfl ⟨rfl, b1⟩
  | false =>
    rw [hq] at T
    go_enter Try.func47, Try.ntmps47
    go_wp2_with fail
    refine T.mono ?_
    rintro e w1 ⟨rfl, b1⟩
    go_wp2
    exact bodyPost_ret (v := .tuple #[.slice none 0 0, .bool false]) (by simp [results, Try.results47, go_sem]) rfl ⟨rfl, b1⟩
def pairV (ok : List Fr → Bool) (A B : List Fr) : Bool := ok A && (ok B && decide (A.length = B.length))
set_option maxHeartbeats 1000000 in
theorem spec_pair (ok : List Fr → Bool) (HV : ∀ v L w, RatsAt w v L → Calls Try.prog 12 #[v] w fun e w' => e = .returned (.bool (ok L)) ∧ Below w.heap.size w w')
    (v0 : Value) (L0 : List Fr) (v1 : Value) (L1 : List Fr) (w : World) (h0 : RatsAt w v0 L0) (h1 : RatsAt w v1 L1) :
    Calls Try.prog 45 #[v0, v1] w fun e w' => e = .returned (.bool (pairV ok L0 L1)) ∧ Below w.heap.size w w' := by
  have T := HV v0 L0 w h0
  have U := Lib.hid (fun W (hW : Below w.heap.size w W) => HV v1 L1 W (h1.below hW))
  obtain ⟨a, cap, rfl, hc0, hm0, _⟩ := h0
  obtain ⟨a', cap', rfl, hc1, hm1, _⟩ := h1
  unfold maxLen at hm0 hm1
  obtain ⟨r, hr⟩ : ∃ r, r = pairV ok L0 L1 := ⟨_, rfl⟩
  rw [← hr]
  have HR := Lib.hid hr
  clear hr
  cases q0 : ok L0 with
  | false =>
    rw [q0] at T
    go_enter Try.func45, Try.ntmps45
    go_wp2_with fail
    refine T.mono ?_
    rintro e w1 ⟨rfl, b1⟩
    go_wp2
    go_ret
    have h := HR.out
    rw [pairV, q0] at h
    exact ⟨by rw [h]; rfl, b1⟩
  | true =>
    rw [q0] at T
    go_enter Try.func45, Try.ntmps45
    go_wp2_with fail
    refine T.mono ?_
    rintro e w1 ⟨rfl, b1⟩
    have B1 := Lib.hid b1
    clear b1
    have V := U.out w1 B1.out
    cases q1 : ok L1 with
    | false =>
      rw [q1] at V
      go_wp2_with fail
      refine V.mono ?_
      rintro e w2 ⟨rfl, b2⟩
      go_wp2
      go_ret
      have h := HR.out
      rw [pairV, q0, q1] at h
      exact ⟨by rw [h]; rfl, B1.out.trans (b2.mono B1.out.size)⟩
    | true =>
      rw [q1] at V
      go_wp2_with fail
      refine V.mono ?_
      rintro e w2 ⟨rfl, b2⟩
      go_wp2
      go_ret
      have h := HR.out
      rw [pairV, q0, q1] at h
      exact ⟨congrArg (fun q => Ending.returned (Value.bool q)) (Bool.eq_iff_iff.2 (by rw [h, Bool.true_and, Bool.true_and, beq_iff_eq, decide_eq_true_iff]; omega)), B1.out.trans (b2.mono B1.out.size)⟩

end Go.Proofs.Ytdajldenjeanhaa
