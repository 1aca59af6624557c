/- ZeroVector and UnitVector of the model and of the program. -/
import Derived.Test.YtlepgkkpopjgoaaGreatZVecZero
import Derived.Test.YtlepgkkpopjgoaaGreatZRatInt
namespace Go.Proofs.YtlepgkkpopjgoaaGreat
open Go.RowKit Go.WideShapes Go.ChangeShapes
set_option linter.unusedVariables false
set_option linter.unusedSimpArgs false
def oF : Fr := ⟨false, [1], [1]⟩
theorem of_zero : ofB 0 = false ∧ ofL 0 = [] := ⟨by decide, by unfold ofL; exact List.length_eq_zero_iff.1 (by rw [limI_length]; exact nlen_zero)⟩
theorem of_one : ofB 1 = false ∧ ofL 1 = [1] := ⟨by decide, limI_1⟩
theorem OwnV.some_at {w : World} {B : Nat} {v : Value} {L : List Fr} {xs : List (Value × Value)} (h : OwnV w B v L xs) (h0 : 0 < L.length) : ∃ g c, v = .slice (some ⟨g, 0, none⟩) L.length c ∧ B ≤ g ∧ g < w.heap.size := by
  rcases h.row.2 with ⟨hv, hn⟩ | ⟨g, cap, cur, hv, _⟩
  · omega
  · exact ⟨g, cap, hv, h.lt g (.inl (by rw [hv]; rfl))⟩
theorem grow_set {P : List Fr} {n k : Nat} (hP : P.length = k) (hk : k < n) (f : Fr) : (P ++ List.replicate (n - k) Fr.zero).set k f = (P ++ [f]) ++ List.replicate (n - (k + 1)) Fr.zero := by
  obtain ⟨m, rfl⟩ : ∃ m, n = k + 1 + m := ⟨n - (k + 1), by omega⟩
  rw [show k + 1 + m - k = m + 1 by omega, show k + 1 + m - (k + 1) = m by omega, List.set_append_right _ _ (by omega), hP, Nat.sub_self, List.replicate_succ, List.set_cons_zero]
  simp

theorem spec_zero1 (w : World) : Calls Tryz.prog 81 #[] w fun r w' => ∃ x y, r = .returned (.agg #[.bool false, x, y]) ∧ OwnR w' w.heap.size x [] y [1] ∧ Below w.heap.size w w' := by
  go_enter Tryz.func81, Tryz.ntmps81
  go_wp2_with fail
  obtain ⟨W0, hW0⟩ : ∃ x, x = (w.alloc (.cells #[.bool false, .slice none 0 0, .slice none 0 0] 34)) := ⟨_, rfl⟩
  have B := Lib.hid (show Below w.heap.size w W0 by rw [hW0]; exact ((Below.refl _ _).alloc (Nat.le_refl _) _))
  have D_r := Lib.hid (rx_at (show Rx W0 _ 34 (false) (.slice none 0 0) (.slice none 0 0) by rw [hW0]; exact Rx.new _ _ _ _ _) (show w.heap.size = _ by simp))
  have SZ := Lib.hid (show W0.heap.size = w.heap.size + 1 by rw [hW0]; simp)
  rw [← hW0]
  clear hW0
  have BB := Lib.hid (Below.refl W0.heap.size W0)
  have hc9 := spec_ratFromInt 0 W0 (by omega)
  rw [of_zero.1, of_zero.2] at hc9
  refine (hc9).mono ?_
  rintro e w1 ⟨v_q, d_q, rfl, u_q, bw1⟩
  obtain ⟨a_q, c_q, e_q, f_q, hx, hy⟩ := u_q.slices
  simp only [List.length_nil, List.length_cons, Nat.zero_add] at hx hy
  subst hx hy
  replace B := Lib.hid (B.out.trans (bw1.mono B.out.size))
  replace BB := Lib.hid (BB.out.trans (bw1.mono BB.out.size))
  clear bw1
  have c0_r := (D_r.out.below BB.out).c0
  have c1_r := (D_r.out.below BB.out).c1
  have c2_r := (D_r.out.below BB.out).c2
  have f0_r := (D_r.out.below BB.out).f 0
  have f1_r := (D_r.out.below BB.out).f 1
  have f2_r := (D_r.out.below BB.out).f 2
  have D9 := D_r.out.below BB.out
  obtain ⟨e1, e2⟩ := rat_end (b' := false) B.out D9 (u_q) (by decide) (by have := SZ.out; omega) (by omega) (.slice a_q 0 c_q) (.slice e_q 1 f_q)
  have D8 := Rx.set3 (b' := false) (v' := .slice a_q 0 c_q) (d' := .slice e_q 1 f_q) D9
  have hc0 := D8.c0; have hc1 := D8.c1; have hc2 := D8.c2
  go_wp2
  exact bodyPost_ret (v := .agg #[.bool (false), .slice a_q 0 c_q, .slice e_q 1 f_q]) (by simp [results, Tryz.results81, go_sem, hc0, hc1, hc2]) rfl ⟨_, _, rfl, e1, e2⟩
theorem spec_zeroF (w : World) : Calls Tryz.prog 81 #[] w fun r w' => ∃ x y, r = .returned (.agg #[.bool zF.neg, x, y]) ∧ OwnR w' w.heap.size x zF.mag y zF.den ∧ Below w.heap.size w w' := by
  exact spec_zero1 w
end Go.Proofs.YtlepgkkpopjgoaaGreat
