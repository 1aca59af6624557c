/- EqualMatrices of the program; the contract of EqualVectors open. -/
import Derived.Test.YtojklmckjebplaaMatx
import Derived.Test.YtojklmckjebplaaMatSeq
namespace Go.Proofs.Ytojklmckjebplaa
open Go.RowKit Go.WideShapes Go.ChangeShapes
set_option linter.unusedVariables false
set_option linter.unusedSimpArgs false
theorem impl_eqM (q : List Fr → List Fr → Bool)
    (HQ : ∀ v0 L0 v1 L1 w, RatsAt w v0 L0 → RatsAt w v1 L1 → Calls Try.prog 17 #[v0, v1] w fun e w' => e = .returned (.bool (q L0 L1)) ∧ Below w.heap.size w w')
    (r0 c0 : Int) (v0 : Value) (L0 : List Fr) (r1 c1 : Int) (v1 : Value) (L1 : List Fr) (w : World) (h0 : RatsAt w v0 L0) (h1 : RatsAt w v1 L1) :
    Calls Try.prog 18 #[.agg #[.int .i64 r0, .int .i64 c0, v0], .agg #[.int .i64 r1, .int .i64 c1, v1]] w fun e w' => e = .returned (.bool (eqM q r0 c0 L0 r1 c1 L1)) ∧ Below w.heap.size w w' := by
  have T := Lib.hid (fun W (hW : Below w.heap.size w W) => HQ v0 L0 v1 L1 W (h0.below hW) (h1.below hW))
  obtain ⟨a, k, rfl, _, _⟩ := ratsAt_form h0
  obtain ⟨a', k', rfl, _, _⟩ := ratsAt_form h1
  obtain ⟨n, hn⟩ : ∃ n, L0.length = n := ⟨_, rfl⟩
  obtain ⟨n', hn'⟩ : ∃ n, L1.length = n := ⟨_, rfl⟩
  rw [hn] at T ⊢
  rw [hn'] at T ⊢
  clear hn hn' h0 h1
  obtain ⟨x, hx⟩ : ∃ x, x = eqM q r0 c0 L0 r1 c1 L1 := ⟨_, rfl⟩
  rw [← hx]
  have HX := Lib.hid hx
  clear hx
  have bA := ((Below.refl w.heap.size w).alloc (Nat.le_refl _) (.cells #[.int .i64 r0, .int .i64 c0, .slice a n k] 25)).alloc (by simp) (.cells #[.int .i64 r1, .int .i64 c1, .slice a' n' k'] 25)
  have BA := Lib.hid bA
  clear bA
  cases h1 : (r0 == r1) with
  | false =>
    obtain rfl : x = false := HX.out.trans (by unfold eqM; rw [h1]; rfl)
    go_enter Try.func18, Try.ntmps18
    go_wp2
    go_ret
    exact ⟨rfl, BA.out⟩
  | true =>
    obtain rfl := eq_of_beq h1
    clear h1
    cases h2 : (c0 == c1) with
    | false =>
      obtain rfl : x = false := HX.out.trans (by unfold eqM; rw [h2]; simp)
      go_enter Try.func18, Try.ntmps18
      go_wp2
      go_ret
      exact ⟨rfl, BA.out⟩
    | true =>
      obtain rfl := eq_of_beq h2
      clear h2
      obtain rfl : x = q L0 L1 := HX.out.trans (by unfold eqM; simp)
      go_enter Try.func18, Try.ntmps18
      go_wp2_with fail
      refine (T.out _ BA.out).mono ?_
      rintro e w1 ⟨rfl, b1⟩
      have B1 := Lib.hid (BA.out.trans (b1.mono BA.out.size))
      clear b1
      go_wp2
      go_ret
      exact ⟨rfl, B1.out⟩

end Go.Proofs.Ytojklmckjebplaa
