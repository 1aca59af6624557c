/- Rows and cells of a matrix, in the model. -/
import Derived.Test.YtojklmckjebplaaMatRow
namespace Go.Proofs.Ytojklmckjebplaa
open Go.RowKit Go.WideShapes Go.ChangeShapes
set_option linter.unusedVariables false
set_option linter.unusedSimpArgs false
theorem rats_part {w : World} {a : Option Addr} {n cap l C : Nat} {L : List Fr} (h : RatsAt w (.slice a n cap) L) (hl : l + C ≤ n) (hne : ¬ cap = l) : RatsAt w (.slice (a.map (·.add (l * 3))) C (cap - l)) ((L.drop l).take C) := by
  obtain ⟨a0, c0, e, h1, h2, h3⟩ := h
  injection e with e1 e2 e3
  subst e1 e2 e3
  have hlen : ((L.drop l).take C).length = C := by rw [List.length_take, List.length_drop]; omega
  refine ⟨a.map (·.add (l * 3)), cap - l, by rw [hlen], by rw [hlen]; omega, by omega, fun i hi => ?_⟩
  rw [hlen] at hi
  obtain ⟨b, o, x, y, rfl, k0, k1, k2, hr⟩ := h3 (l + i) (by omega)
  have hg : ((L.drop l).take C)[i]'(by rw [hlen]; exact hi) = L[l + i]'(by omega) := by simp
  refine ⟨b, o + l * 3, x, y, by simp [Addr.add], ?_, ?_, ?_, ?_⟩
  · rw [hg, show o + l * 3 + i * 3 = o + (l + i) * 3 by omega]; exact k0
  · rw [show o + l * 3 + i * 3 = o + (l + i) * 3 by omega]; exact k1
  · rw [show o + l * 3 + i * 3 = o + (l + i) * 3 by omega]; exact k2
  · rw [hg]; exact hr
theorem rats_none {w : World} {a : Option Addr} {c l : Nat} {L : List Fr} (hc : c ≤ maxLen) : RatsAt w (.slice a 0 c) ((L.drop l).take 0) :=
  ⟨a, c, by simp, by simp, hc, fun i hi => by simp at hi⟩
set_option maxHeartbeats 1000000 in
theorem spec_row (r : Int) (C i n : Nat) (a : Option Addr) (cap : Nat) (L : List Fr) (w : World) (h : RatsAt w (.slice a n cap) L) (hi : i * C + C ≤ n) (hn : n ≤ 576) (hC : C ≤ 24) (hi2 : i ≤ 24) :
    Calls Try.prog 74 #[.agg #[.int .i64 r, .int .i64 (C : Int), .slice a n cap], .int .i64 (i : Int)] w fun e w' => ∃ v, e = .returned v ∧ RatsAt w' v ((L.drop (i * C)).take C) ∧ Below w.heap.size w w' := by
  have H := Lib.hid h
  obtain ⟨a0, c0, e, h1, h2, h3⟩ := h
  injection e with e1 e2 e3
  subst e1 e2 e3
  clear h3
  unfold maxLen at h2
  obtain ⟨l, hl⟩ : ∃ l, i * C = l := ⟨_, rfl⟩
  have p1 : (i : Int) * (C : Int) = (l : Int) := by rw [← hl, Int.natCast_mul]
  have p2 : ((i : Int) + 1) * (C : Int) = ((l + C : Nat) : Int) := by rw [Int.add_mul, p1, Int.one_mul, Int.natCast_add]
  rw [hl] at hi ⊢
  have BA := Lib.hid ((Below.refl w.heap.size w).alloc (Nat.le_refl _) (.cells #[.int .i64 r, .int .i64 (C : Int), .slice a L.length cap] 25))
  by_cases hC0 : C = 0
  · subst hC0
    rw [Nat.mul_zero] at hl
    subst hl
    have HRs := Lib.hid (fun (W : World) (a : Option Addr) => rats_none (w := W) (a := a) (c := cap) (l := 0) (L := L) (by unfold maxLen; omega))
    by_cases hcl : cap = 0
    · subst hcl
      go_enter Try.func74, Try.ntmps74
      go_wp2
      go_ret
      exact ⟨.slice _ 0 _, rfl, HRs.out _ _, BA.out⟩
    · go_enter Try.func74, Try.ntmps74
      go_wp2
      go_ret
      exact ⟨.slice _ 0 _, rfl, HRs.out _ _, BA.out⟩
  · have hcl : ¬ cap = l := by omega
    have HRs := Lib.hid (fun W (hW : Below w.heap.size w W) => rats_part (H.out.below hW) hi hcl)
    clear hl
    go_enter Try.func74, Try.ntmps74
    go_wp2
    go_ret
    have hv := HRs.out _ BA.out
    have e9 : l + C - l = C := by omega
    first
      | exact ⟨_, rfl, hv, BA.out⟩
      | (rw [e9]; exact ⟨_, rfl, hv, BA.out⟩)

end Go.Proofs.Ytojklmckjebplaa
