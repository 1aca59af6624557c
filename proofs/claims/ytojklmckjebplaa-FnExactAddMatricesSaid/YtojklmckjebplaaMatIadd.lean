/- AddMatrices of the program. -/
import Derived.Test.YtojklmckjebplaaMatAdd
import Derived.Test.YtojklmckjebplaaMatIok
import Derived.Test.YtojklmckjebplaaVecComb
import Derived.Test.YtojklmckjebplaaVecOk
namespace Go.Proofs.Ytojklmckjebplaa
open Go.RowKit Go.WideShapes Go.ChangeShapes
set_option linter.unusedVariables false
set_option linter.unusedSimpArgs false
theorem impl_matOk (r c : Int) (v : Value) (L : List Fr) (w : World) (h : RatsAt w v L) :
    Calls Try.prog 19 #[.agg #[.int .i64 r, .int .i64 c, v]] w fun e w' => e = .returned (.bool (matB ratOk r c L)) ∧ Below w.heap.size w w' :=
  impl_matrixOkH ratOk (fun v L w h => impl_isV v L w h) r c v L w h

set_option maxRecDepth 100000 in
set_option maxHeartbeats 2000000 in
theorem impl_addMatrices (r0 c0 : Int) (v0 : Value) (L0 : List Fr) (r1 c1 : Int) (v1 : Value) (L1 : List Fr) (w : World) (h0 : RatsAt w v0 L0) (h1 : RatsAt w v1 L1) :
    Calls Try.prog 46 #[.agg #[.int .i64 r0, .int .i64 c0, v0], .agg #[.int .i64 r1, .int .i64 c1, v1]] w fun e w' => ∃ u xs, e = .returned (.tuple #[.agg #[.int .i64 (adR ratOk addX r0 c0 L0 r1 c1 L1), .int .i64 (adC ratOk addX r0 c0 L0 r1 c1 L1), u], .bool (adB ratOk addX r0 c0 L0 r1 c1 L1)]) ∧ OwnV w' w.heap.size u (adL ratOk addX r0 c0 L0 r1 c1 L1) xs ∧ Below w.heap.size w w' := by
  have R0 := Lib.hid h0
  have R1 := Lib.hid h1
  obtain ⟨a, k, rfl, hk, hk2⟩ := ratsAt_form h0
  obtain ⟨a', k', rfl, hk', hk2'⟩ := ratsAt_form h1
  obtain ⟨n, hn⟩ : ∃ n, L0.length = n := ⟨_, rfl⟩
  obtain ⟨n', hn'⟩ : ∃ n, L1.length = n := ⟨_, rfl⟩
  rw [hn] at R0 hk ⊢
  rw [hn'] at R1 hk' ⊢
  have HN := Lib.hid hn
  have HN' := Lib.hid hn'
  clear hn hn' h0 h1
  obtain ⟨W0, hW0⟩ : ∃ x, x = ((w.alloc (.cells #[.int .i64 r0, .int .i64 c0, .slice a n k] 25)).alloc (.cells #[.int .i64 r1, .int .i64 c1, .slice a' n' k'] 25)).alloc (.cells #[.int .i64 0, .int .i64 0, .slice none 0 0] 25) := ⟨_, rfl⟩
  have D := Lib.hid (show B3 W0 w.heap.size 25 (.int .i64 r0) (.int .i64 c0) (.slice a n k) by rw [hW0]; exact ((B3.new _ _ _ _ _).alloc _).alloc _)
  have E := Lib.hid (show B3 W0 (w.heap.size + 1) 25 (.int .i64 r1) (.int .i64 c1) (.slice a' n' k') by rw [hW0]; exact b3_at ((B3.new _ _ _ _ _).alloc _) (by simp))
  have Z := Lib.hid (show B3 W0 (w.heap.size + 1 + 1) 25 (.int .i64 0) (.int .i64 0) (.slice none 0 0) by rw [hW0]; exact b3_at (B3.new _ _ _ _ _) (by simp))
  have B0 := Lib.hid (show Below w.heap.size w W0 by rw [hW0]; exact (((Below.refl _ _).alloc (Nat.le_refl _) _).alloc (by simp) _).alloc (by simp; omega) _)
  have HW := Lib.hid hW0.symm
  clear hW0
  cases g0 : (r0 == r1) with
  | false =>
    have HF := (show adB ratOk addX r0 c0 L0 r1 c1 L1 = false by unfold adB fitM; rw [g0]; simp)
    rw [(ad_no HF).1, (ad_no HF).2.1, (ad_no HF).2.2, HF]
    clear HF
    have g2 : (r0 != r1) = true := by unfold bne; rw [g0]; rfl
    have d0 := D.out.c0
    have d1 := D.out.c1
    have d2 := D.out.c2
    have e0 := E.out.c0
    have e1 := E.out.c1
    have e2 := E.out.c2
    have zz0 := Z.out.c0
    have zz1 := Z.out.c1
    have zz2 := Z.out.c2
    have yy0 := Z.out.f 0
    have yy1 := Z.out.f 1
    have yy2 := Z.out.f 2
    go_enter Try.func46, Try.ntmps46
    go_wp2_with (rw [HW.out])
    have z0 := Z.out.c0
    have z1 := Z.out.c1
    have z2 := Z.out.c2
    have y0 := Z.out.f 0
    have y1 := Z.out.f 1
    have y2 := Z.out.f 2
    have V9 := Lib.hid (OwnV.set3_b3 (OwnV.nil _ w.heap.size) Z.out (by decide) (by decide) (.int .i64 0) (.int .i64 0) (.slice none 0 0))
    have B9 := Lib.hid (((B0.out.setCell (p := ⟨w.heap.size + 1 + 1, 0, none⟩) (by simp; omega) (.int .i64 0)).setCell (p := ⟨w.heap.size + 1 + 1, 1, none⟩) (by simp; omega) (.int .i64 0)).setCell (p := ⟨w.heap.size + 1 + 1, 2, none⟩) (by simp; omega) (.slice none 0 0))
    have D8 := Z.out.set3 (.int .i64 0) (.int .i64 0) (.slice none 0 0)
    have hc0 := D8.c0; have hc1 := D8.c1; have hc2 := D8.c2
    clear D8
    go_wp2_with fail
    exact bodyPost_ret (v := .tuple #[.agg #[(.int .i64 0), (.int .i64 0), (.slice none 0 0)], .bool false]) (by simp [results, Try.results46, go_sem, hc0, hc1, hc2]) rfl ⟨_, _, rfl, V9.out, B9.out⟩
  | true =>
  cases g1 : (c0 == c1) with
  | false =>
    have HF := (show adB ratOk addX r0 c0 L0 r1 c1 L1 = false by unfold adB fitM; rw [g1]; simp)
    rw [(ad_no HF).1, (ad_no HF).2.1, (ad_no HF).2.2, HF]
    clear HF
    have g2 : (c0 != c1) = true := by unfold bne; rw [g1]; rfl
    obtain rfl := eq_of_beq g0
    have d0 := D.out.c0
    have d1 := D.out.c1
    have d2 := D.out.c2
    have e0 := E.out.c0
    have e1 := E.out.c1
    have e2 := E.out.c2
    have zz0 := Z.out.c0
    have zz1 := Z.out.c1
    have zz2 := Z.out.c2
    have yy0 := Z.out.f 0
    have yy1 := Z.out.f 1
    have yy2 := Z.out.f 2
    go_enter Try.func46, Try.ntmps46
    go_wp2_with (rw [HW.out])
    have z0 := Z.out.c0
    have z1 := Z.out.c1
    have z2 := Z.out.c2
    have y0 := Z.out.f 0
    have y1 := Z.out.f 1
    have y2 := Z.out.f 2
    have V9 := Lib.hid (OwnV.set3_b3 (OwnV.nil _ w.heap.size) Z.out (by decide) (by decide) (.int .i64 0) (.int .i64 0) (.slice none 0 0))
    have B9 := Lib.hid (((B0.out.setCell (p := ⟨w.heap.size + 1 + 1, 0, none⟩) (by simp; omega) (.int .i64 0)).setCell (p := ⟨w.heap.size + 1 + 1, 1, none⟩) (by simp; omega) (.int .i64 0)).setCell (p := ⟨w.heap.size + 1 + 1, 2, none⟩) (by simp; omega) (.slice none 0 0))
    have D8 := Z.out.set3 (.int .i64 0) (.int .i64 0) (.slice none 0 0)
    have hc0 := D8.c0; have hc1 := D8.c1; have hc2 := D8.c2
    clear D8
    go_wp2_with fail
    exact bodyPost_ret (v := .tuple #[.agg #[(.int .i64 0), (.int .i64 0), (.slice none 0 0)], .bool false]) (by simp [results, Try.results46, go_sem, hc0, hc1, hc2]) rfl ⟨_, _, rfl, V9.out, B9.out⟩
  | true =>
  obtain rfl := eq_of_beq g0
  obtain rfl := eq_of_beq g1
  clear g0 g1
  cases q0 : matB ratOk r0 c0 L0 with
  | false =>
    have HF := (show adB ratOk addX r0 c0 L0 r0 c0 L1 = false by unfold adB fitM; rw [q0]; rfl)
    rw [(ad_no HF).1, (ad_no HF).2.1, (ad_no HF).2.2, HF]
    clear HF
    have d0 := D.out.c0
    have d1 := D.out.c1
    have d2 := D.out.c2
    have e0 := E.out.c0
    have e1 := E.out.c1
    have e2 := E.out.c2
    go_enter Try.func46, Try.ntmps46
    go_wp2_with (rw [HW.out])
    refine (impl_matOk _ _ _ L0 _ (R0.out.below B0.out)).mono ?_
    rw [q0]
    rintro e w9 ⟨rfl, b9⟩
    replace D := Lib.hid (D.out.below b9)
    replace E := Lib.hid (E.out.below b9)
    replace Z := Lib.hid (Z.out.below b9)
    replace B0 := Lib.hid (B0.out.trans (b9.mono B0.out.size))
    clear b9 d0 d1 d2 e0 e1 e2
    have z0 := Z.out.c0
    have z1 := Z.out.c1
    have z2 := Z.out.c2
    have y0 := Z.out.f 0
    have y1 := Z.out.f 1
    have y2 := Z.out.f 2
    have V9 := Lib.hid (OwnV.set3_b3 (OwnV.nil _ w.heap.size) Z.out (by decide) (by decide) (.int .i64 0) (.int .i64 0) (.slice none 0 0))
    have B9 := Lib.hid (((B0.out.setCell (p := ⟨w.heap.size + 1 + 1, 0, none⟩) (by simp; omega) (.int .i64 0)).setCell (p := ⟨w.heap.size + 1 + 1, 1, none⟩) (by simp; omega) (.int .i64 0)).setCell (p := ⟨w.heap.size + 1 + 1, 2, none⟩) (by simp; omega) (.slice none 0 0))
    have D8 := Z.out.set3 (.int .i64 0) (.int .i64 0) (.slice none 0 0)
    have hc0 := D8.c0; have hc1 := D8.c1; have hc2 := D8.c2
    clear D8
    go_wp2_with fail
    exact bodyPost_ret (v := .tuple #[.agg #[(.int .i64 0), (.int .i64 0), (.slice none 0 0)], .bool false]) (by simp [results, Try.results46, go_sem, hc0, hc1, hc2]) rfl ⟨_, _, rfl, V9.out, B9.out⟩
  | true =>
  cases q1 : matB ratOk r0 c0 L1 with
  | false =>
    have HF := (show adB ratOk addX r0 c0 L0 r0 c0 L1 = false by unfold adB fitM; rw [q1]; simp)
    rw [(ad_no HF).1, (ad_no HF).2.1, (ad_no HF).2.2, HF]
    clear HF
    have d0 := D.out.c0
    have d1 := D.out.c1
    have d2 := D.out.c2
    have e0 := E.out.c0
    have e1 := E.out.c1
    have e2 := E.out.c2
    go_enter Try.func46, Try.ntmps46
    go_wp2_with (rw [HW.out])
    refine (impl_matOk _ _ _ L0 _ (R0.out.below B0.out)).mono ?_
    rw [q0]
    rintro e w9 ⟨rfl, b9⟩
    replace D := Lib.hid (D.out.below b9)
    replace E := Lib.hid (E.out.below b9)
    replace Z := Lib.hid (Z.out.below b9)
    replace B0 := Lib.hid (B0.out.trans (b9.mono B0.out.size))
    clear b9 d0 d1 d2 e0 e1 e2
    have d0 := D.out.c0
    have d1 := D.out.c1
    have d2 := D.out.c2
    have e0 := E.out.c0
    have e1 := E.out.c1
    have e2 := E.out.c2
    go_wp2_with fail
    refine (impl_matOk _ _ _ L1 _ (R1.out.below B0.out)).mono ?_
    rw [q1]
    rintro e w9 ⟨rfl, b9⟩
    replace D := Lib.hid (D.out.below b9)
    replace E := Lib.hid (E.out.below b9)
    replace Z := Lib.hid (Z.out.below b9)
    replace B0 := Lib.hid (B0.out.trans (b9.mono B0.out.size))
    clear b9 d0 d1 d2 e0 e1 e2
    have z0 := Z.out.c0
    have z1 := Z.out.c1
    have z2 := Z.out.c2
    have y0 := Z.out.f 0
    have y1 := Z.out.f 1
    have y2 := Z.out.f 2
    have V9 := Lib.hid (OwnV.set3_b3 (OwnV.nil _ w.heap.size) Z.out (by decide) (by decide) (.int .i64 0) (.int .i64 0) (.slice none 0 0))
    have B9 := Lib.hid (((B0.out.setCell (p := ⟨w.heap.size + 1 + 1, 0, none⟩) (by simp; omega) (.int .i64 0)).setCell (p := ⟨w.heap.size + 1 + 1, 1, none⟩) (by simp; omega) (.int .i64 0)).setCell (p := ⟨w.heap.size + 1 + 1, 2, none⟩) (by simp; omega) (.slice none 0 0))
    have D8 := Z.out.set3 (.int .i64 0) (.int .i64 0) (.slice none 0 0)
    have hc0 := D8.c0; have hc1 := D8.c1; have hc2 := D8.c2
    clear D8
    go_wp2_with fail
    exact bodyPost_ret (v := .tuple #[.agg #[(.int .i64 0), (.int .i64 0), (.slice none 0 0)], .bool false]) (by simp [results, Try.results46, go_sem, hc0, hc1, hc2]) rfl ⟨_, _, rfl, V9.out, B9.out⟩
  | true =>
  obtain ⟨R, C, rfl, rfl, hR, hC, hL0, hRC, hE0⟩ := matB_parts q0
  obtain ⟨R', C', hR', hC', _, _, hL1, _, hE1⟩ := matB_parts q1
  obtain rfl : R = R' := by omega
  obtain rfl : C = C' := by omega
  clear hR' hC'
  have KA := Lib.hid (fun W (hW : Below w.heap.size w W) => impl_combAdd addX (fun f g hf hg => impl_plusF f g hf hg) _ L0 _ L1 W (R0.out.below hW) (R1.out.below hW) (by omega) (by omega) hE0 hE1)
  clear hL0 hL1 hRC hE0 hE1
  cases q2 : fineV (zipF addX L0 L1) with
  | false =>
    have HF := (show adB ratOk addX R C L0 R C L1 = false by unfold adB; rw [q2]; simp)
    rw [(ad_no HF).1, (ad_no HF).2.1, (ad_no HF).2.2, HF]
    clear HF
    rw [q2, show cmbL addX L0 L1 = [] by unfold cmbL; rw [q2]; rfl] at KA
    have d0 := D.out.c0
    have d1 := D.out.c1
    have d2 := D.out.c2
    have e0 := E.out.c0
    have e1 := E.out.c1
    have e2 := E.out.c2
    go_enter Try.func46, Try.ntmps46
    go_wp2_with (rw [HW.out])
    refine (impl_matOk _ _ _ L0 _ (R0.out.below B0.out)).mono ?_
    rw [q0]
    rintro e w9 ⟨rfl, b9⟩
    replace D := Lib.hid (D.out.below b9)
    replace E := Lib.hid (E.out.below b9)
    replace Z := Lib.hid (Z.out.below b9)
    replace B0 := Lib.hid (B0.out.trans (b9.mono B0.out.size))
    clear b9 d0 d1 d2 e0 e1 e2
    have d0 := D.out.c0
    have d1 := D.out.c1
    have d2 := D.out.c2
    have e0 := E.out.c0
    have e1 := E.out.c1
    have e2 := E.out.c2
    go_wp2_with fail
    refine (impl_matOk _ _ _ L1 _ (R1.out.below B0.out)).mono ?_
    rw [q1]
    rintro e w9 ⟨rfl, b9⟩
    replace D := Lib.hid (D.out.below b9)
    replace E := Lib.hid (E.out.below b9)
    replace Z := Lib.hid (Z.out.below b9)
    replace B0 := Lib.hid (B0.out.trans (b9.mono B0.out.size))
    clear b9 d0 d1 d2 e0 e1 e2
    have d0 := D.out.c0
    have d1 := D.out.c1
    have d2 := D.out.c2
    have e0 := E.out.c0
    have e1 := E.out.c1
    have e2 := E.out.c2
    go_wp2_with fail
    refine (KA.out _ B0.out).mono ?_
    rintro e w9 ⟨u, xs, rfl, o9, b9⟩
    obtain ⟨a9, c9, rfl⟩ := o9.slice
    replace D := Lib.hid (D.out.below b9)
    replace Z := Lib.hid (Z.out.below b9)
    replace B0 := Lib.hid (B0.out.trans (b9.mono B0.out.size))
    clear b9 o9 KA d0 d1 d2 e0 e1 e2
    have z0 := Z.out.c0
    have z1 := Z.out.c1
    have z2 := Z.out.c2
    have y0 := Z.out.f 0
    have y1 := Z.out.f 1
    have y2 := Z.out.f 2
    have V9 := Lib.hid (OwnV.set3_b3 (OwnV.nil _ w.heap.size) Z.out (by decide) (by decide) (.int .i64 0) (.int .i64 0) (.slice none 0 0))
    have B9 := Lib.hid (((B0.out.setCell (p := ⟨w.heap.size + 1 + 1, 0, none⟩) (by simp; omega) (.int .i64 0)).setCell (p := ⟨w.heap.size + 1 + 1, 1, none⟩) (by simp; omega) (.int .i64 0)).setCell (p := ⟨w.heap.size + 1 + 1, 2, none⟩) (by simp; omega) (.slice none 0 0))
    have D8 := Z.out.set3 (.int .i64 0) (.int .i64 0) (.slice none 0 0)
    have hc0 := D8.c0; have hc1 := D8.c1; have hc2 := D8.c2
    clear D8
    go_wp2_with fail
    exact bodyPost_ret (v := .tuple #[.agg #[(.int .i64 0), (.int .i64 0), (.slice none 0 0)], .bool false]) (by simp [results, Try.results46, go_sem, hc0, hc1, hc2]) rfl ⟨_, _, rfl, V9.out, B9.out⟩
  | true =>
    have HF := (show adB ratOk addX R C L0 R C L1 = true by unfold adB fitM; rw [q0, q1, q2]; simp)
    rw [(ad_yes HF).1, (ad_yes HF).2.1, (ad_yes HF).2.2, HF]
    clear HF
    rw [q2, show cmbL addX L0 L1 = zipF addX L0 L1 by unfold cmbL; rw [q2]; rfl] at KA
    obtain ⟨P, hP⟩ : ∃ P, P = zipF addX L0 L1 := ⟨_, rfl⟩
    rw [← hP] at KA ⊢
    clear hP
    have d0 := D.out.c0
    have d1 := D.out.c1
    have d2 := D.out.c2
    have e0 := E.out.c0
    have e1 := E.out.c1
    have e2 := E.out.c2
    go_enter Try.func46, Try.ntmps46
    go_wp2_with (rw [HW.out])
    refine (impl_matOk _ _ _ L0 _ (R0.out.below B0.out)).mono ?_
    rw [q0]
    rintro e w9 ⟨rfl, b9⟩
    replace D := Lib.hid (D.out.below b9)
    replace E := Lib.hid (E.out.below b9)
    replace Z := Lib.hid (Z.out.below b9)
    replace B0 := Lib.hid (B0.out.trans (b9.mono B0.out.size))
    clear b9 d0 d1 d2 e0 e1 e2
    have d0 := D.out.c0
    have d1 := D.out.c1
    have d2 := D.out.c2
    have e0 := E.out.c0
    have e1 := E.out.c1
    have e2 := E.out.c2
    go_wp2_with fail
    refine (impl_matOk _ _ _ L1 _ (R1.out.below B0.out)).mono ?_
    rw [q1]
    rintro e w9 ⟨rfl, b9⟩
    replace D := Lib.hid (D.out.below b9)
    replace E := Lib.hid (E.out.below b9)
    replace Z := Lib.hid (Z.out.below b9)
    replace B0 := Lib.hid (B0.out.trans (b9.mono B0.out.size))
    clear b9 d0 d1 d2 e0 e1 e2
    have d0 := D.out.c0
    have d1 := D.out.c1
    have d2 := D.out.c2
    have e0 := E.out.c0
    have e1 := E.out.c1
    have e2 := E.out.c2
    go_wp2_with fail
    refine (KA.out _ B0.out).mono ?_
    rintro e w9 ⟨u, xs, rfl, o9, b9⟩
    obtain ⟨a9, c9, rfl⟩ := o9.slice
    have V8 := Lib.hid (o9.base B0.out.size)
    replace D := Lib.hid (D.out.below b9)
    replace Z := Lib.hid (Z.out.below b9)
    replace B0 := Lib.hid (B0.out.trans (b9.mono B0.out.size))
    clear b9 o9 KA d0 d1 d2 e0 e1 e2
    have d0 := D.out.c0
    have d1 := D.out.c1
    have d2 := D.out.c2
    have z0 := Z.out.c0
    have z1 := Z.out.c1
    have z2 := Z.out.c2
    have y0 := Z.out.f 0
    have y1 := Z.out.f 1
    have y2 := Z.out.f 2
    have V9 := Lib.hid (OwnV.set3_b3 V8.out Z.out (by decide) (by decide) (.int .i64 (R : Int)) (.int .i64 (C : Int)) (.slice a9 P.length c9))
    have B9 := Lib.hid (((B0.out.setCell (p := ⟨w.heap.size + 1 + 1, 0, none⟩) (by simp; omega) (.int .i64 (R : Int))).setCell (p := ⟨w.heap.size + 1 + 1, 1, none⟩) (by simp; omega) (.int .i64 (C : Int))).setCell (p := ⟨w.heap.size + 1 + 1, 2, none⟩) (by simp; omega) (.slice a9 P.length c9))
    have D8 := Z.out.set3 (.int .i64 (R : Int)) (.int .i64 (C : Int)) (.slice a9 P.length c9)
    have hc0 := D8.c0; have hc1 := D8.c1; have hc2 := D8.c2
    clear D8
    go_wp2_with fail
    exact bodyPost_ret (v := .tuple #[.agg #[(.int .i64 (R : Int)), (.int .i64 (C : Int)), (.slice a9 P.length c9)], .bool true]) (by simp [results, Try.results46, go_sem, hc0, hc1, hc2]) rfl ⟨_, _, rfl, V9.out, B9.out⟩

end Go.Proofs.Ytojklmckjebplaa
