/- CellAt and RowOf of the program; the contracts of IsVector and clone open. -/
import Derived.Test.YtojklmckjebplaaMatIok
namespace Go.Proofs.Ytojklmckjebplaa
open Go.RowKit Go.WideShapes Go.ChangeShapes
set_option linter.unusedVariables false
set_option linter.unusedSimpArgs false
theorem rowV_some {C : Nat} (h : 0 < C) (b o i : Nat) : rowV (some ⟨b, o, none⟩) C i = .slice (some ⟨b, o + i * C * 3, none⟩) C C := by
  unfold rowV; rw [if_neg (by omega)]; simp [Addr.add]
set_option maxRecDepth 100000 in
set_option maxHeartbeats 1000000 in
theorem impl_cellAt (ok : Bool → List Int → List Int → Bool)
    (HV : ∀ v L w, RatsAt w v L → Calls Try.prog 55 #[v] w fun e w' => e = .returned (.bool (vecB ok L)) ∧ Below w.heap.size w w')
    (HC : ∀ (f : Fr), ok f.neg f.mag f.den = true → ∀ v d w, RowR w v f.mag d f.den → Calls Try.prog 53 #[.agg #[.bool f.neg, v, d]] w fun r w' => ∃ x y, r = .returned (.agg #[.bool f.neg, x, y]) ∧ OwnR w' w.heap.size x f.mag y f.den ∧ Below w.heap.size w w')
    (r c i k : Int) (v : Value) (L : List Fr) (w : World) (h : RatsAt w v L) :
    Calls Try.prog 22 #[.agg #[.int .i64 r, .int .i64 c, v], .int .i64 i, .int .i64 k] w fun e w' => ∃ x y, e = .returned (.agg #[.bool (cellF ok r c L i k).neg, x, y]) ∧ OwnR w' w.heap.size x (cellF ok r c L i k).mag y (cellF ok r c L i k).den ∧ Below w.heap.size w w' := by
  obtain ⟨a, cap, rfl, hc, hm, hr⟩ := h
  have HR := Lib.hid (show RatsAt w (.slice a L.length cap) L from ⟨a, cap, rfl, hc, hm, hr⟩)
  unfold maxLen at hm
  have RR := Lib.hid hr
  clear hr
  obtain ⟨n, hnn⟩ : ∃ n, L.length = n := ⟨_, rfl⟩
  rw [hnn] at hc HR ⊢
  have HN := Lib.hid hnn
  clear hnn
  obtain ⟨W0, hW0⟩ : ∃ x, x = (w.alloc (.cells #[.int .i64 r, .int .i64 c, .slice a n cap] 25)).alloc (.cells #[.bool false, .slice none 0 0, .slice none 0 0] 42) := ⟨_, rfl⟩
  have D := Lib.hid (show B3 W0 w.heap.size 25 (.int .i64 r) (.int .i64 c) (.slice a n cap) by rw [hW0]; exact (B3.new _ _ _ _ _).alloc _)
  have Z := Lib.hid (show B3 W0 (w.heap.size + 1) 42 (.bool false) (.slice none 0 0) (.slice none 0 0) by rw [hW0]; exact b3_at (B3.new _ _ _ _ _) (by simp))
  have B0 := Lib.hid (show Below w.heap.size w W0 by rw [hW0]; exact ((Below.refl _ _).alloc (Nat.le_refl _) _).alloc (by simp) _)
  have HW := Lib.hid hW0.symm
  clear hW0
  obtain ⟨Q, hQ⟩ : ∃ x, x = cellF ok r c L i k := ⟨_, rfl⟩
  rw [← hQ]
  have HQ := Lib.hid hQ
  clear hQ
  by_cases hi0 : i < 0
  · obtain rfl : Q = Fr.zero := HQ.out.trans (by unfold cellF rowOk inB; rw [decide_eq_false (show ¬ 0 ≤ i by omega)]; simp)
    obtain ⟨e1, e2⟩ := cell_end B0.out Z.out (ownR_none _ w.heap.size) (by decide) (Nat.le_refl _) (Nat.le_succ _) (b' := false) (.slice none 0 0) (.slice none 0 0)
    have D8 := Z.out.set3 (.bool false) (.slice none 0 0) (.slice none 0 0)
    have hc0 := D8.c0; have hc1 := D8.c1; have hc2 := D8.c2
    clear D8
    have d0 := D.out.c0
    have d1 := D.out.c1
    have d2 := D.out.c2
    have z0 := Z.out.c0
    have z1 := Z.out.c1
    have z2 := Z.out.c2
    have y0 := Z.out.f 0
    have y1 := Z.out.f 1
    have y2 := Z.out.f 2
    go_enter Try.func22, Try.ntmps22
    go_wp2_with (rw [HW.out])
    exact bodyPost_ret (v := .agg #[.bool false, (.slice none 0 0), (.slice none 0 0)]) (by simp [results, Try.results22, go_sem, hc0, hc1, hc2]) rfl ⟨_, _, rfl, e1, e2⟩
  by_cases hi1 : r ≤ i
  · obtain rfl : Q = Fr.zero := HQ.out.trans (by unfold cellF rowOk inB; rw [decide_eq_false (show ¬ i ≤ r - 1 by omega)]; simp)
    obtain ⟨e1, e2⟩ := cell_end B0.out Z.out (ownR_none _ w.heap.size) (by decide) (Nat.le_refl _) (Nat.le_succ _) (b' := false) (.slice none 0 0) (.slice none 0 0)
    have D8 := Z.out.set3 (.bool false) (.slice none 0 0) (.slice none 0 0)
    have hc0 := D8.c0; have hc1 := D8.c1; have hc2 := D8.c2
    clear D8
    have d0 := D.out.c0
    have d1 := D.out.c1
    have d2 := D.out.c2
    have z0 := Z.out.c0
    have z1 := Z.out.c1
    have z2 := Z.out.c2
    have y0 := Z.out.f 0
    have y1 := Z.out.f 1
    have y2 := Z.out.f 2
    go_enter Try.func22, Try.ntmps22
    go_wp2_with (rw [HW.out])
    exact bodyPost_ret (v := .agg #[.bool false, (.slice none 0 0), (.slice none 0 0)]) (by simp [results, Try.results22, go_sem, hc0, hc1, hc2]) rfl ⟨_, _, rfl, e1, e2⟩
  by_cases hk0 : k < 0
  · obtain rfl : Q = Fr.zero := HQ.out.trans (by unfold cellF inB; rw [decide_eq_false (show ¬ 0 ≤ k by omega)]; simp)
    obtain ⟨e1, e2⟩ := cell_end B0.out Z.out (ownR_none _ w.heap.size) (by decide) (Nat.le_refl _) (Nat.le_succ _) (b' := false) (.slice none 0 0) (.slice none 0 0)
    have D8 := Z.out.set3 (.bool false) (.slice none 0 0) (.slice none 0 0)
    have hc0 := D8.c0; have hc1 := D8.c1; have hc2 := D8.c2
    clear D8
    have d0 := D.out.c0
    have d1 := D.out.c1
    have d2 := D.out.c2
    have z0 := Z.out.c0
    have z1 := Z.out.c1
    have z2 := Z.out.c2
    have y0 := Z.out.f 0
    have y1 := Z.out.f 1
    have y2 := Z.out.f 2
    go_enter Try.func22, Try.ntmps22
    go_wp2_with (rw [HW.out])
    exact bodyPost_ret (v := .agg #[.bool false, (.slice none 0 0), (.slice none 0 0)]) (by simp [results, Try.results22, go_sem, hc0, hc1, hc2]) rfl ⟨_, _, rfl, e1, e2⟩
  by_cases hk1 : c ≤ k
  · obtain rfl : Q = Fr.zero := HQ.out.trans (by unfold cellF inB; rw [decide_eq_false (show ¬ k ≤ c - 1 by omega)]; simp)
    obtain ⟨e1, e2⟩ := cell_end B0.out Z.out (ownR_none _ w.heap.size) (by decide) (Nat.le_refl _) (Nat.le_succ _) (b' := false) (.slice none 0 0) (.slice none 0 0)
    have D8 := Z.out.set3 (.bool false) (.slice none 0 0) (.slice none 0 0)
    have hc0 := D8.c0; have hc1 := D8.c1; have hc2 := D8.c2
    clear D8
    have d0 := D.out.c0
    have d1 := D.out.c1
    have d2 := D.out.c2
    have z0 := Z.out.c0
    have z1 := Z.out.c1
    have z2 := Z.out.c2
    have y0 := Z.out.f 0
    have y1 := Z.out.f 1
    have y2 := Z.out.f 2
    go_enter Try.func22, Try.ntmps22
    go_wp2_with (rw [HW.out])
    exact bodyPost_ret (v := .agg #[.bool false, (.slice none 0 0), (.slice none 0 0)]) (by simp [results, Try.results22, go_sem, hc0, hc1, hc2]) rfl ⟨_, _, rfl, e1, e2⟩
  cases q0 : matB ok r c L with
  | false =>
    obtain rfl : Q = Fr.zero := HQ.out.trans (by unfold cellF rowOk; rw [q0]; rfl)
    have d0 := D.out.c0
    have d1 := D.out.c1
    have d2 := D.out.c2
    go_enter Try.func22, Try.ntmps22
    go_wp2_with (rw [HW.out])
    refine (impl_matrixOkH ok HV _ _ _ L W0 (HR.out.below B0.out)).mono ?_
    rw [q0]
    rintro e w1 ⟨rfl, b1⟩
    replace D := Lib.hid (D.out.below b1)
    replace Z := Lib.hid (Z.out.below b1)
    replace B0 := Lib.hid (B0.out.trans (b1.mono B0.out.size))
    clear b1
    clear d0 d1 d2
    obtain ⟨e1, e2⟩ := cell_end B0.out Z.out (ownR_none _ w.heap.size) (by decide) (Nat.le_refl _) (Nat.le_succ _) (b' := false) (.slice none 0 0) (.slice none 0 0)
    have D8 := Z.out.set3 (.bool false) (.slice none 0 0) (.slice none 0 0)
    have hc0 := D8.c0; have hc1 := D8.c1; have hc2 := D8.c2
    clear D8
    have d0 := D.out.c0
    have d1 := D.out.c1
    have d2 := D.out.c2
    have z0 := Z.out.c0
    have z1 := Z.out.c1
    have z2 := Z.out.c2
    have y0 := Z.out.f 0
    have y1 := Z.out.f 1
    have y2 := Z.out.f 2
    go_wp2
    exact bodyPost_ret (v := .agg #[.bool false, (.slice none 0 0), (.slice none 0 0)]) (by simp [results, Try.results22, go_sem, hc0, hc1, hc2]) rfl ⟨_, _, rfl, e1, e2⟩
  | true =>
  obtain ⟨R, C, rfl, rfl, hR, hC, hLn, hRC, hE⟩ := matB_parts q0
  rw [HN.out] at hLn
  have HLN := Lib.hid hLn
  have hn9 : n ≤ 576 := by omega
  clear hLn hRC
  obtain ⟨I, rfl⟩ : ∃ a : Nat, i = a := ⟨i.toNat, by omega⟩
  obtain ⟨J, rfl⟩ : ∃ a : Nat, k = a := ⟨k.toNat, by omega⟩
  have hIR : I < R := by omega
  have hJC : J < C := by omega
  have hin : I * C + C ≤ n := by rw [HLN.out]; exact row_in hIR
  have hltL : I * C + J < L.length := by rw [HN.out]; omega
  obtain rfl : Q = L[I * C + J]'hltL := HQ.out.trans (by
    unfold cellF rowOk inB
    rw [q0, decide_eq_true (show (0 : Int) ≤ I by omega), decide_eq_true (show (I : Int) ≤ (R : Int) - 1 by omega), decide_eq_true (show (0 : Int) ≤ J by omega), decide_eq_true (show (J : Int) ≤ (C : Int) - 1 by omega)]
    simp only [Bool.and_true, ite_true]
    rw [← Int.natCast_mul, ← Int.natCast_add, Int.toNat_natCast, List.getElem?_eq_getElem hltL, Option.getD_some])
  obtain ⟨b, o, x, y, rfl, k0, k1, k2, hrr⟩ := RR.out (I * C + J) hltL
  have HF := Lib.hid (hE (I * C + J) hltL)
  obtain ⟨f, hf⟩ : ∃ f, f = L[I * C + J]'hltL := ⟨_, rfl⟩
  rw [← hf] at k0 hrr HF ⊢
  have HRR := Lib.hid hrr
  obtain ⟨a1, r1, a2, r2, rfl, rfl, hz1, hz2⟩ := rowR_len hrr
  have HROW := Lib.hid (fun W => impl_row (R : Int) C I n (some ⟨b, o, none⟩) cap W hin hn9 hC (by omega) hc (by omega))
  rw [rowV_some (by omega)] at HROW
  rw [show o + (I * C + J) * 3 = o + I * C * 3 + J * 3 by omega] at k0 k1 k2
  obtain ⟨l, hl⟩ : ∃ l, o + I * C * 3 = l := ⟨_, rfl⟩
  rw [hl] at k0 k1 k2 HROW
  have K0 := Lib.hid k0
  have K1 := Lib.hid k1
  have K2 := Lib.hid k2
  clear k0 k1 k2 hrr hl hf hin hE RR hltL HQ
  have d0 := D.out.c0
  have d1 := D.out.c1
  have d2 := D.out.c2
  go_enter Try.func22, Try.ntmps22
  go_wp2_with (rw [HW.out])
  refine (impl_matrixOkH ok HV _ _ _ L W0 (HR.out.below B0.out)).mono ?_
  rw [q0]
  rintro e w1 ⟨rfl, b1⟩
  replace D := Lib.hid (D.out.below b1)
  replace Z := Lib.hid (Z.out.below b1)
  replace B0 := Lib.hid (B0.out.trans (b1.mono B0.out.size))
  clear b1
  clear d0 d1 d2
  have d0 := D.out.c0
  have d1 := D.out.c1
  have d2 := D.out.c2
  go_wp2_with fail
  refine (HROW.out _).mono ?_
  rintro e w2 ⟨rfl, b2⟩
  replace D := Lib.hid (D.out.below b2)
  replace Z := Lib.hid (Z.out.below b2)
  replace B0 := Lib.hid (B0.out.trans (b2.mono B0.out.size))
  clear b2 d0 d1 d2
  have c0 := (B0.out.cell (World.block_lt_of_cell? w _ K0.out)).trans K0.out
  have c1 := (B0.out.cell (World.block_lt_of_cell? w _ K1.out)).trans K1.out
  have c2 := (B0.out.cell (World.block_lt_of_cell? w _ K2.out)).trans K2.out
  go_wp2_with fail
  refine (HC f HF.out _ _ w2 (HRR.out.below B0.out)).mono ?_
  rintro e w3 ⟨x, y, rfl, o3, b3⟩
  obtain ⟨a3, c3, e3, f3, rfl, rfl⟩ := o3.slices
  replace Z := Lib.hid (Z.out.below b3)
  have BZ := Lib.hid B0.out.size
  replace B0 := Lib.hid (B0.out.trans (b3.mono B0.out.size))
  clear b3 c0 c1 c2
  obtain ⟨e1, e2⟩ := cell_end B0.out Z.out o3 (by decide) BZ.out (Nat.le_succ _) (b' := f.neg) (.slice a3 f.mag.length c3) (.slice e3 f.den.length f3)
  have D8 := Z.out.set3 (.bool f.neg) (.slice a3 f.mag.length c3) (.slice e3 f.den.length f3)
  have hc0 := D8.c0; have hc1 := D8.c1; have hc2 := D8.c2
  clear D8
  have z0 := Z.out.c0
  have z1 := Z.out.c1
  have z2 := Z.out.c2
  have y0 := Z.out.f 0
  have y1 := Z.out.f 1
  have y2 := Z.out.f 2
  go_wp2
  exact bodyPost_ret (v := .agg #[.bool f.neg, .slice a3 f.mag.length c3, .slice e3 f.den.length f3]) (by simp [results, Try.results22, go_sem, hc0, hc1, hc2]) rfl ⟨_, _, rfl, e1, e2⟩

end Go.Proofs.Ytojklmckjebplaa
