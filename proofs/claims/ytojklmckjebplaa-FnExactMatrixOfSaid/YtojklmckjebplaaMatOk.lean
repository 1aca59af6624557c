/- MatrixOk of the model, RatOk's contract open. -/
import Derived.Test.YtojklmckjebplaaMat
import Derived.Test.YtojklmckjebplaaVecIs
namespace Go.Proofs.Ytojklmckjebplaa
open Go.RowKit Go.WideShapes Go.ChangeShapes
set_option linter.unusedVariables false
set_option linter.unusedSimpArgs false
def dimB (n : Int) : Bool := decide (0 ≤ n) && decide (n ≤ 24)
theorem dimB_iff {n : Int} : dimB n = true ↔ 0 ≤ n ∧ n ≤ 24 := by unfold dimB; simp
def matB (ok : Bool → List Int → List Int → Bool) (r c : Int) (L : List Fr) : Bool := dimB r && (dimB c && (decide ((L.length : Int) = r * c) && L.all (fun f => ok f.neg f.mag f.den)))
theorem dim_mul {r c : Int} (hr : dimB r = true) (hc : dimB c = true) : 0 ≤ r * c ∧ r * c ≤ 576 := by
  obtain ⟨h1, h2⟩ := dimB_iff.1 hr
  obtain ⟨h3, h4⟩ := dimB_iff.1 hc
  obtain ⟨a, rfl⟩ : ∃ a : Nat, r = a := ⟨r.toNat, by omega⟩
  obtain ⟨b, rfl⟩ : ∃ b : Nat, c = b := ⟨c.toNat, by omega⟩
  have h : a * b ≤ 24 * 24 := Nat.mul_le_mul (by omega) (by omega)
  refine ⟨Int.mul_nonneg h1 h3, ?_⟩
  have h' : ((a * b : Nat) : Int) ≤ 576 := by omega
  rw [Int.natCast_mul] at h'
  exact h'

set_option maxHeartbeats 1000000 in
theorem spec_matrixOk (ok : Bool → List Int → List Int → Bool)
    (HOK : ∀ b v zs d ds w, RowR w v zs d ds → Calls Try.prog 61 #[.agg #[.bool b, v, d]] w fun r w' => r = .returned (.bool (ok b zs ds)) ∧ Below w.heap.size w w')
    (r c : Int) (v : Value) (L : List Fr) (w : World) (h : RatsAt w v L) :
    Calls Try.prog 24 #[.agg #[.int .i64 r, .int .i64 c, v]] w fun e w' => e = .returned (.bool (matB ok r c L)) ∧ Below w.heap.size w w' := by
  obtain ⟨a, cap, rfl, hc, hm, hr⟩ := h
  unfold maxLen at hm
  obtain ⟨n, hnn⟩ : ∃ n, L.length = n := ⟨_, rfl⟩
  have R := Lib.hid hr
  clear hr
  rw [hnn] at hc ⊢
  have HN := Lib.hid hnn
  clear hnn
  obtain ⟨x, hx⟩ : ∃ x, x = matB ok r c L := ⟨_, rfl⟩
  rw [← hx]
  have HX := Lib.hid hx
  clear hx
  cases q0 : dimB r with
  | false =>
    obtain rfl : x = false := HX.out.trans (by unfold matB; rw [q0]; rfl)
    have p0 : (decide (0 ≤ r) && decide (r ≤ 24)) = false := q0
    clear q0
    go_enter Try.func24, Try.ntmps24
    go_wp2_with fail
    obtain ⟨W0, hW0⟩ : ∃ x, x = w.alloc (.cells #[.int .i64 r, .int .i64 c, .slice a n cap] 25) := ⟨_, rfl⟩
    have D := Lib.hid (show B3 W0 w.heap.size 25 (.int .i64 r) (.int .i64 c) (.slice a n cap) by rw [hW0]; exact B3.new _ _ _ _ _)
    have B0 := Lib.hid (show Below w.heap.size w W0 by rw [hW0]; exact (Below.refl _ _).alloc (Nat.le_refl _) _)
    have z := Lib.hid (show w.heap.size < W0.heap.size by rw [hW0]; simp)
    rw [← hW0]
    clear hW0
    have d0 := D.out.c0
    have d1 := D.out.c1
    have d2 := D.out.c2
    refine (spec_in _ _ _ _).mono ?_
    rw [p0]
    rintro e w' ⟨rfl, h9⟩
    replace h9 := h9.symm
    subst h9
    go_wp2
    go_ret
    exact ⟨rfl, B0.out⟩
  | true =>
  have p0 : (decide (0 ≤ r) && decide (r ≤ 24)) = true := q0
  cases q1 : dimB c with
  | false =>
    obtain rfl : x = false := HX.out.trans (by unfold matB; rw [q1]; simp)
    have p1 : (decide (0 ≤ c) && decide (c ≤ 24)) = false := q1
    clear q0 q1
    go_enter Try.func24, Try.ntmps24
    go_wp2_with fail
    obtain ⟨W0, hW0⟩ : ∃ x, x = w.alloc (.cells #[.int .i64 r, .int .i64 c, .slice a n cap] 25) := ⟨_, rfl⟩
    have D := Lib.hid (show B3 W0 w.heap.size 25 (.int .i64 r) (.int .i64 c) (.slice a n cap) by rw [hW0]; exact B3.new _ _ _ _ _)
    have B0 := Lib.hid (show Below w.heap.size w W0 by rw [hW0]; exact (Below.refl _ _).alloc (Nat.le_refl _) _)
    have z := Lib.hid (show w.heap.size < W0.heap.size by rw [hW0]; simp)
    rw [← hW0]
    clear hW0
    refine (spec_in _ _ _ _).mono ?_
    rw [p0]
    rintro e w' ⟨rfl, h9⟩
    replace h9 := h9.symm
    subst h9
    have d0 := D.out.c0
    have d1 := D.out.c1
    have d2 := D.out.c2
    go_wp2_with fail
    refine (spec_in _ _ _ _).mono ?_
    rw [p1]
    rintro e w' ⟨rfl, h9⟩
    replace h9 := h9.symm
    subst h9
    go_wp2
    go_ret
    exact ⟨rfl, B0.out⟩
  | true =>
  have p1 : (decide (0 ≤ c) && decide (c ≤ 24)) = true := q1
  obtain ⟨hm0, hm1⟩ := dim_mul q0 q1
  by_cases hl : (n : Int) = r * c
  rotate_left
  · obtain rfl : x = false := HX.out.trans (by unfold matB; rw [decide_eq_false (by rw [HN.out]; exact hl)]; simp)
    have hne : ((n : Int) == r * c) = false := by rw [beq_eq_false_iff_ne]; exact hl
    clear q0 q1
    go_enter Try.func24, Try.ntmps24
    go_wp2_with fail
    obtain ⟨W0, hW0⟩ : ∃ x, x = w.alloc (.cells #[.int .i64 r, .int .i64 c, .slice a n cap] 25) := ⟨_, rfl⟩
    have D := Lib.hid (show B3 W0 w.heap.size 25 (.int .i64 r) (.int .i64 c) (.slice a n cap) by rw [hW0]; exact B3.new _ _ _ _ _)
    have B0 := Lib.hid (show Below w.heap.size w W0 by rw [hW0]; exact (Below.refl _ _).alloc (Nat.le_refl _) _)
    have z := Lib.hid (show w.heap.size < W0.heap.size by rw [hW0]; simp)
    rw [← hW0]
    clear hW0
    refine (spec_in _ _ _ _).mono ?_
    rw [p0]
    rintro e w' ⟨rfl, h9⟩
    replace h9 := h9.symm
    subst h9
    have d0 := D.out.c0
    have d1 := D.out.c1
    have d2 := D.out.c2
    go_wp2_with fail
    refine (spec_in _ _ _ _).mono ?_
    rw [p1]
    rintro e w' ⟨rfl, h9⟩
    replace h9 := h9.symm
    subst h9
    go_wp2
    go_ret
    exact ⟨rfl, B0.out⟩
  have hne : ((n : Int) == r * c) = true := by rw [beq_iff_eq]; exact hl
  have hne2 : ((n : Int) != r * c) = false := by unfold bne; rw [hne]; rfl
  have HE := Lib.hid (show matB ok r c L = L.all (fun f => ok f.neg f.mag f.den) by unfold matB; rw [q0, q1, decide_eq_true (by rw [HN.out]; exact hl)]; rfl)
  have hn9 : n ≤ 576 := by omega
  clear q0 q1 hl
  go_enter Try.func24, Try.ntmps24
  go_wp2_with fail
  obtain ⟨W0, hW0⟩ : ∃ x, x = w.alloc (.cells #[.int .i64 r, .int .i64 c, .slice a n cap] 25) := ⟨_, rfl⟩
  have D := Lib.hid (show B3 W0 w.heap.size 25 (.int .i64 r) (.int .i64 c) (.slice a n cap) by rw [hW0]; exact B3.new _ _ _ _ _)
  have B0 := Lib.hid (show Below w.heap.size w W0 by rw [hW0]; exact (Below.refl _ _).alloc (Nat.le_refl _) _)
  have z := Lib.hid (show w.heap.size < W0.heap.size by rw [hW0]; simp)
  rw [← hW0]
  clear hW0
  refine (spec_in _ _ _ _).mono ?_
  rw [p0]
  rintro e w' ⟨rfl, h9⟩
  replace h9 := h9.symm
  subst h9
  have d0 := D.out.c0
  have d1 := D.out.c1
  have d2 := D.out.c2
  go_wp2_with fail
  refine (spec_in _ _ _ _).mono ?_
  rw [p1]
  rintro e w' ⟨rfl, h9⟩
  replace h9 := h9.symm
  subst h9
  go_wp2_with fail
  clear d0 d1 d2 p0 p1 hm0 hm1 hne hne2
  have HB := Lib.hid (Below.refl W0.heap.size W0)
  go_loopw [29] (fun iv wr => ∃ k : Nat, k ≤ n ∧ iv = .int .i64 k ∧ Hid ((L.take k).all (fun f => ok f.neg f.mag f.den) = true) ∧ Hid (Below W0.heap.size W0 wr)) (fun iv _ => n - (intOf iv).toNat)
  case atStart => exact ⟨0, Nat.zero_le _, rfl, Lib.hid (by simp), HB⟩
  case round =>
    obtain ⟨k, hk, rfl, HA, HBW⟩ := hrel
    by_cases hlt : k < n
    · have hltL : k < L.length := by rw [HN.out]; exact hlt
      have HBk := Lib.hid (B0.out.trans (HBW.out.mono B0.out.size))
      obtain ⟨b, o, x', y, rfl, c0, c1, c2, hrr⟩ := R.out k hltL
      have d0 := (HBk.out.cell (World.block_lt_of_cell? w _ c0)).trans c0
      have d1 := (HBk.out.cell (World.block_lt_of_cell? w _ c1)).trans c1
      have d2 := (HBk.out.cell (World.block_lt_of_cell? w _ c2)).trans c2
      have RR := Lib.hid (hrr.below HBk.out)
      obtain ⟨a1, r1, a2, r2, rfl, rfl, hz1, hz2⟩ := rowR_len hrr
      clear c0 c1 c2 R hrr
      cases hq : ok (L[k]'hltL).neg (L[k]'hltL).mag (L[k]'hltL).den with
      | true =>
        go_wp2_with fail
        have bA := (Below.refl wr.heap.size wr).alloc (Nat.le_refl _) (.cells #[.bool (L[k]'hltL).neg, .slice a1 (L[k]'hltL).mag.length r1, .slice a2 (L[k]'hltL).den.length r2] 42)
        have T := HOK (L[k]'hltL).neg _ _ _ _ _ (RR.out.below bA)
        rw [hq] at T
        refine T.mono ?_
        rintro e w1 ⟨rfl, b1⟩
        have BB := Lib.hid (HBW.out.trans ((bA.trans (b1.mono (by simp))).mono HBW.out.size))
        clear b1 T bA
        go_wp2_with fail
        exact ⟨⟨k + 1, by omega, by go_num, Lib.hid (by rw [all_take hltL, HA.out, hq]; rfl), BB⟩, by simp [intOf]; omega⟩
      | false =>
        obtain rfl : x = false := HX.out.trans (HE.out.trans (all_no hltL hq))
        go_wp2_with fail
        have bA := (Below.refl wr.heap.size wr).alloc (Nat.le_refl _) (.cells #[.bool (L[k]'hltL).neg, .slice a1 (L[k]'hltL).mag.length r1, .slice a2 (L[k]'hltL).den.length r2] 42)
        have T := HOK (L[k]'hltL).neg _ _ _ _ _ (RR.out.below bA)
        rw [hq] at T
        refine T.mono ?_
        rintro e w1 ⟨rfl, b1⟩
        have BB := Lib.hid (HBk.out.trans ((bA.trans (b1.mono (by simp))).mono HBk.out.size))
        clear b1 T bA
        go_wp2_with fail
        go_ret
        exact ⟨rfl, BB.out⟩
    · obtain rfl : k = n := by omega
      have h2 := HA.out
      rw [← HN.out, List.take_length] at h2
      obtain rfl : x = true := HX.out.trans (HE.out.trans h2)
      clear h2
      go_wp2
      go_ret
      exact ⟨rfl, B0.out.trans (HBW.out.mono B0.out.size)⟩

end Go.Proofs.Ytojklmckjebplaa
