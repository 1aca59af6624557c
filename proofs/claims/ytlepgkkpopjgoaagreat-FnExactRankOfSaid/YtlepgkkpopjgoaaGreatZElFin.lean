/- finish of the program; use's contract open. -/
import Derived.Test.YtlepgkkpopjgoaaGreatZElTurn
import Derived.Deep.LoopGhost
namespace Go.Proofs.YtlepgkkpopjgoaaGreat
open Go.RowKit Go.WideShapes Go.ChangeShapes
set_option linter.unusedVariables false
set_option linter.unusedSimpArgs false
set_option maxRecDepth 100000 in
set_option maxHeartbeats 8000000 in
theorem impl_finishH (HU : ∀ (p q N cap B R C i k : Nat) (e : El) (pv fv : Value) (xs ps : List (Value × Value)) (w : World), PrS w B p (some ⟨q, 0, none⟩) N cap R C e pv fv xs ps → ElOk R C e k → N = R * C → R ≤ 24 → C ≤ 24 → i < R → e.piv.length < R → k < C → nilF (e.g i k) = false → B ≤ w.heap.size →
      Calls Tryz.prog 140 #[.pointer (some ⟨p, 0, none⟩), .int .i64 (i : Int), .int .i64 (k : Int)] w fun r w' => r = .returned (.bool (fineG R C (useE e i k).g)) ∧ (fineG R C (useE e i k).g = true → ∃ pv' fv' xs' ps', PrS w' B p (some ⟨q, 0, none⟩) N cap R C (useE e i k) pv' fv' xs' ps') ∧ Below B w w')
    (p N cap B R C : Nat) (a : Option Addr) (e0 : El) (pv fv : Value) (xs ps : List (Value × Value)) (w : World) (h : PrS w B p a N cap R C e0 pv fv xs ps) (E0 : ElOk R C e0 0) (hN : N = R * C) (hR : R ≤ 24) (hC : C ≤ 24) (hB : B ≤ w.heap.size) :
    Calls Tryz.prog 103 #[.pointer (some ⟨p, 0, none⟩)] w fun r w' => r = .returned (.bool (fineG R C (runE R C C e0).g)) ∧ (fineG R C (runE R C C e0).g = true → ∃ pv' fv' xs' ps', PrS w' B p a N cap R C (runE R C C e0) pv' fv' xs' ps') ∧ Below B w w' := by
  obtain ⟨E, hE⟩ : ∃ E, runE R C C e0 = E := ⟨_, rfl⟩
  rw [hE]
  have HE0 := Lib.hid hE
  have HB9 := Lib.hid hB
  have HN := Lib.hid hN
  have EO0 := Lib.hid E0
  have P0 := Lib.hid h
  have HUH := Lib.hid HU
  have hRC : R * C ≤ 24 * 24 := Nat.mul_le_mul hR hC
  have hN9 : N ≤ 576 := by omega
  have HCAP := Lib.hid (show N ≤ cap ∧ cap ≤ 9223372036854775807 by
    obtain ⟨a9, c9, e9, z1, z2⟩ := ratsAt_form h.S.V.rats
    injection e9 with e1 e2 e3
    have := h.S.V.count
    rw [tabM_len] at e2 z1
    omega)
  have d1 := h.D.c1
  clear hE E0 h HU hN hRC
  obtain ⟨ZF, hZF⟩ : ∃ z, z = fineG R C E.g := ⟨_, rfl⟩
  rw [← hZF]
  have HZF := Lib.hid hZF
  clear hZF
  go_enter Tryz.func103, Tryz.ntmps103
  go_wp2
  go_step3
  go_wp2
  go_step3
  go_wp2
  clear d1
  go_loopw [10] (fun cv wr => ∃ (k : Nat) (e : El) (pv fv : Value) (xs ps : List (Value × Value)), k ≤ C ∧ cv = .int .i64 k ∧ Hid (ElOk R C e k) ∧ Hid (runE R C (C - k) e = E) ∧ Hid (PrS wr B p a N cap R C e pv fv xs ps) ∧ Hid (Below B w wr)) (fun cv _ => C - (intOf cv).toNat)
  case atStart => exact ⟨0, e0, pv, fv, xs, ps, Nat.zero_le _, rfl, EO0, HE0, P0, Lib.hid (Below.refl _ _)⟩
  case round =>
    clear EO0 HE0 P0
    obtain ⟨k, e, pv, fv, xs, ps, hk, rfl, EO, HE, P, BB⟩ := hrel
    by_cases hlt : k < C
    · obtain ⟨pa, pc, hpv⟩ := P.out.S.P.slice
      rw [natV_len] at hpv
      have hn := EO.out.len
      obtain ⟨n, hnn⟩ : ∃ n, e.piv.length = n := ⟨_, rfl⟩
      rw [hnn] at hpv hn
      have HNN := Lib.hid hnn
      clear hnn
      subst hpv
      have d0 := P.out.D.c0
      have d3 := P.out.D.c3
      go_wp2
      go_loopw [4] (fun iv wi => ∃ (i : Nat), n ≤ i ∧ i ≤ R ∧ iv = .int .i64 i ∧ Hid (∀ b, n ≤ b → b < i → nilF (e.g b k) = true) ∧ Hid (PrS wi B p a N cap R C e (.slice pa n pc) fv xs ps) ∧ Hid (Below B w wi)) (fun iv _ => R - (intOf iv).toNat)
      case atStart => exact ⟨n, Nat.le_refl _, by omega, rfl, Lib.hid (fun b h1 h2 => by omega), P, BB⟩
      case round =>
        clear P BB d0 d3
        obtain ⟨i, hni, hi, rfl, NI, P, BB⟩ := hrel
        have d0 := P.out.D.c0
        have d1 := P.out.D.c1
        have d2 := P.out.D.c2
        by_cases hil : i < R
        · have heR : ((i : Int) == (R : Int)) = false := by rw [beq_eq_false_iff_ne]; omega
          have hnR : n < R := by omega
          have hN0 : 0 < (tabM R C e.g).length := by rw [tabM_len]; exact Nat.mul_pos (by omega) (by omega)
          obtain ⟨q, c9, hs9, hq1, hq2⟩ := P.out.S.V.some_at hN0
          injection hs9 with z1 z2 z3
          subst z1
          clear z2 z3 hN0 c9 hq1
          have hik : i * C + k < N := by have := at_lt hil hlt; rw [HN.out]; exact this
          have hi9 := row_in (C := C) hil
          have hRC9 : R * C = N := HN.out.symm
          obtain ⟨a1, r1, a2, r2, hcc, hrr, -, -⟩ := elem_at P.out.S.V HN.out hil hlt
          obtain ⟨f, hf⟩ : ∃ f, f = e.g i k := ⟨_, rfl⟩
          rw [← hf] at hcc hrr
          have HF := Lib.hid hf
          obtain ⟨l, hl⟩ : ∃ l, i * C * 3 = l := ⟨_, rfl⟩
          have HROW := Lib.hid ((impl_row (R : Int) C i N (some ⟨q, 0, none⟩) cap wr (by omega) hN9 hC (by omega) HCAP.out.1 HCAP.out.2).mono (R' := fun e w' => e = .returned (.slice (some ⟨q, l, none⟩) C C) ∧ Below wr.heap.size wr w') (fun e w' ⟨he, hb⟩ => ⟨by rw [he, rowV_some (by omega), Nat.zero_add, hl], hb⟩))
          have HK := Lib.hid (show (i * C + k) * 3 = l + k * 3 by rw [← hl]; omega)
          rw [HK.out] at hcc
          have RR := Lib.hid hrr
          have HCC := Lib.hid hcc
          clear hf hl hi9 hRC9 hcc hrr hik
          have hBr : B ≤ wr.heap.size := Nat.le_trans HB9.out BB.out.size
          have x1 : (0 : Int) ≤ (k : Int) := by omega
          have x2 : (k : Int) < (C : Int) := by omega
          go_wp2_with fail
          refine (HROW.out).mono ?_
          rintro ee w1 ⟨rfl, b1⟩
          have s0 := (b1.cell (p := ⟨q, l + k * 3, none⟩) (World.block_lt_of_cell? wr _ HCC.out.1)).trans HCC.out.1
          have s1 := (b1.cell (p := ⟨q, l + k * 3 + 1, none⟩) (World.block_lt_of_cell? wr _ HCC.out.2.1)).trans HCC.out.2.1
          have s2 := (b1.cell (p := ⟨q, l + k * 3 + 2, none⟩) (World.block_lt_of_cell? wr _ HCC.out.2.2)).trans HCC.out.2.2
          have P1 := Lib.hid (P.out.below b1)
          have BB1 := Lib.hid (BB.out.trans (b1.mono hBr))
          have RR1 := Lib.hid (RR.out.below b1)
          clear b1 P BB RR HCC HROW d0 d1 d2
          go_wp2_with fail
          cases hq0 : nilF f with
          | true =>
            refine (impl_isZero f _ _ _ RR1.out).mono ?_
            rw [hq0]
            rintro ee w2 ⟨rfl, b1⟩
            have P2 := Lib.hid (P1.out.below b1)
            have BB2 := Lib.hid (BB1.out.trans (b1.mono (Nat.le_trans HB9.out BB1.out.size)))
            clear b1 P1 BB1 RR1 s0 s1 s2
            go_wp2_with fail
            exact ⟨⟨i + 1, by omega, by omega, by go_num, Lib.hid (fun b h1 h2 => by
              by_cases h3 : b = i
              · rw [h3, ← HF.out]; exact hq0
              · exact NI.out b h1 (by omega)), P2, BB2⟩, by simp [intOf]; omega⟩
          | false =>
            have HFI := Lib.hid (show firstR e.g k (R - e.piv.length) e.piv.length = i by rw [HNN.out]; exact firstR_of hni hi NI.out (fun _ => by rw [← HF.out]; exact hq0))
            have HSE := Lib.hid (show stepE R e k = useE e i k by unfold stepE; rw [if_pos (by rw [HNN.out]; exact hnR), HFI.out, if_neg (by omega)])
            refine (impl_isZero f _ _ _ RR1.out).mono ?_
            rw [hq0]
            rintro ee w2 ⟨rfl, b1⟩
            have P2 := Lib.hid (P1.out.below b1)
            have BB2 := Lib.hid (BB1.out.trans (b1.mono (Nat.le_trans HB9.out BB1.out.size)))
            have HUS := Lib.hid (HUH.out p q N cap B R C i k e _ fv xs ps w2 P2.out EO.out HN.out hR hC hil (by rw [HNN.out]; exact hnR) hlt (by rw [← HF.out]; exact hq0) (Nat.le_trans HB9.out BB2.out.size))
            clear b1 P1 BB1 RR1 s0 s1 s2
            have hBw : B ≤ w2.heap.size := Nat.le_trans HB9.out BB2.out.size
            cases hq9 : fineG R C (useE e i k).g with
            | true =>
              rw [hq9] at HUS
              have HQ9 := Lib.hid hq9
              clear hq9
              go_wp2_with fail
              refine (HUS.out).mono ?_
              rintro ee w3 ⟨rfl, hv, b3⟩
              obtain ⟨pv', fv', xs', ps', P3'⟩ := hv (by first | rfl | trivial)
              have P3 := Lib.hid P3'
              have BB3 := Lib.hid (BB2.out.trans b3)
              clear P3' hv b3 P2 BB2 HUS
              have EU := Lib.hid (show ElOk R C (useE e i k) (k + 1) by have h1 := EO.out.step hlt (by rw [HSE.out]; exact HQ9.out); rw [HSE.out] at h1; exact h1)
              go_wp2_with fail
              exact ⟨⟨k + 1, useE e i k, pv', fv', xs', ps', by omega, by go_num, EU, Lib.hid (by
                have h1 := HE.out
                rw [show C - k = (C - (k + 1)) + 1 by omega] at h1
                unfold runE at h1
                rw [show C - (C - (k + 1) + 1) = k by omega, HSE.out, if_pos HQ9.out] at h1
                exact h1), P3, BB3⟩, by simp [intOf]; omega⟩
            | false =>
              rw [hq9] at HUS
              have HZ9 := Lib.hid (show ZF = false by
                rw [HZF.out]
                have h1 := HE.out
                rw [show C - k = (C - (k + 1)) + 1 by omega] at h1
                unfold runE at h1
                rw [show C - (C - (k + 1) + 1) = k by omega, HSE.out, if_neg (by rw [hq9]; intro h; cases h)] at h1
                rw [← h1]; exact hq9)
              obtain rfl : ZF = false := HZ9.out
              clear hq9
              go_wp2_with fail
              refine (HUS.out).mono ?_
              rintro ee w3 ⟨rfl, hv, b3⟩
              have BB3 := Lib.hid (BB2.out.trans b3)
              clear hv b3 P2 BB2 HUS
              go_wp2_with fail
              try rw [Exit.noGoto_ret]
              go_ret
              first | exact ⟨rfl, (fun h => by cases h), BB3.out⟩ | exact ⟨rfl, BB3.out⟩
        · obtain rfl : i = R := by omega
          have heR : ((i : Int) == (i : Int)) = true := by rw [beq_iff_eq]
          have HSE := Lib.hid (show stepE i e k = e by
            unfold stepE
            by_cases hnR : n < i
            · rw [if_pos (by rw [HNN.out]; exact hnR), if_pos (by rw [HNN.out]; exact firstR_of hni (Nat.le_refl _) NI.out (fun h => by omega))]
            · rw [if_neg (by rw [HNN.out]; exact hnR)])
          have HFE := Lib.hid ((fineG_iff EO.out.ok.good).2 EO.out.ok)
          go_wp2_with fail
          exact ⟨⟨k + 1, e, _, fv, xs, ps, by omega, by go_num, Lib.hid EO.out.same, Lib.hid (by
                have h1 := HE.out
                rw [show C - k = (C - (k + 1)) + 1 by omega] at h1
                unfold runE at h1
                rw [show C - (C - (k + 1) + 1) = k by omega, HSE.out, if_pos HFE.out] at h1
                exact h1), P, BB⟩, by simp [intOf]; omega⟩
    · obtain rfl : k = C := by omega
      have HEE := Lib.hid (show e = E by have h1 := HE.out; rw [Nat.sub_self] at h1; exact h1)
      have HEO := Lib.hid ((fineG_iff EO.out.ok.good).2 EO.out.ok)
      have HZ9 := Lib.hid (show ZF = true by rw [HZF.out, ← HEE.out]; exact HEO.out)
      obtain rfl : ZF = true := HZ9.out
      go_wp2_with fail
      try rw [Exit.noGoto_ret]
      go_ret
      first | exact ⟨rfl, fun _ => ⟨_, _, _, _, by rw [← HEE.out]; exact P.out⟩, BB.out⟩ | exact ⟨rfl, ⟨_, _, _, _, by rw [← HEE.out]; exact P.out⟩, BB.out⟩ | exact ⟨⟨_, _, _, _, by rw [← HEE.out]; exact P.out⟩, BB.out⟩

end Go.Proofs.YtlepgkkpopjgoaaGreat
