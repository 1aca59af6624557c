/- eliminate of the program; use's contract open. -/
import Derived.Test.YtlepgkkpopjgoaaGreatZElFin
import Derived.Test.YtlepgkkpopjgoaaGreatZMatLens
import Derived.Deep.RegionHeld3
namespace Go.Proofs.YtlepgkkpopjgoaaGreat
open Go.RowKit Go.WideShapes Go.ChangeShapes
set_option linter.unusedVariables false
set_option linter.unusedSimpArgs false
/-- k elements in place, zeros behind them -/
def cpL (L : List Fr) (n k : Nat) : List Fr := L.take k ++ List.replicate (n - k) Fr.zero
theorem cpL_len {L : List Fr} {n k : Nat} (hn : L.length = n) (hk : k ≤ n) : (cpL L n k).length = n := by simp [cpL]; omega
theorem startE_g (L : List Fr) (C : Nat) : startE L C = ⟨elM L C, [], []⟩ := rfl
set_option maxRecDepth 100000 in
set_option maxHeartbeats 8000000 in
theorem impl_eliminateH (HU : ∀ (p q N cap B R C i k : Nat) (e : El) (pv fv : Value) (xs ps : List (Value × Value)) (w : World), PrS w B p (some ⟨q, 0, none⟩) N cap R C e pv fv xs ps → ElOk R C e k → N = R * C → R ≤ 24 → C ≤ 24 → i < R → e.piv.length < R → k < C → nilF (e.g i k) = false → B ≤ w.heap.size →
      Calls Tryz.prog 140 #[.pointer (some ⟨p, 0, none⟩), .int .i64 (i : Int), .int .i64 (k : Int)] w fun r w' => r = .returned (.bool (fineG R C (useE e i k).g)) ∧ (fineG R C (useE e i k).g = true → ∃ pv' fv' xs' ps', PrS w' B p (some ⟨q, 0, none⟩) N cap R C (useE e i k) pv' fv' xs' ps') ∧ Below B w w')
    (R C n cap : Nat) (a : Option Addr) (L : List Fr) (w : World) (h : RatsAt w (.slice a n cap) L) (hL : L.length = n) (hN : n = R * C) (hR : R ≤ 24) (hC : C ≤ 24) (hok : ∀ k (hk : k < L.length), ratOk (L[k]'hk).neg (L[k]'hk).mag (L[k]'hk).den = true) (hall : L.all okF = true) :
    Calls Tryz.prog 58 #[.agg #[.int .i64 (R : Int), .int .i64 (C : Int), .slice a n cap]] w fun r w' => ∃ p, r = .returned (.tuple #[.pointer (some ⟨p, 0, none⟩), .bool (fineG R C (runE R C C (startE L C)).g)]) ∧ (fineG R C (runE R C C (startE L C)).g = true → ∃ g pv fv xs ps, PrS w' w.heap.size p (some ⟨g, 0, none⟩) n n R C (runE R C C (startE L C)) pv fv xs ps) ∧ Below w.heap.size w w' := by
  have hRC : R * C ≤ 24 * 24 := Nat.mul_le_mul hR hC
  have hN9 : n ≤ 576 := by omega
  have HN := Lib.hid hN
  have HL := Lib.hid hL
  have HR := Lib.hid h
  have HOK := Lib.hid hok
  have HFH := Lib.hid (fun p a xs (W : World) (hP : PrS W w.heap.size p a n n R C (startE L C) (.slice none 0 0) (.slice none 0 0) xs []) (hB : w.heap.size ≤ W.heap.size) => impl_finishH HU p n n w.heap.size R C a (startE L C) _ _ xs [] W hP (start_ok (by rw [hL]; exact hN) hall) hN hR hC hB)
  obtain ⟨E, hE⟩ : ∃ E, E = runE R C C (startE L C) := ⟨_, rfl⟩
  rw [← hE] at HFH ⊢
  obtain ⟨ZF, hZF⟩ : ∃ z, z = fineG R C E.g := ⟨_, rfl⟩
  rw [← hZF] at HFH ⊢
  obtain ⟨a0, c0, e9, hcap1, hcap2, hr⟩ := h
  injection e9 with z1 z2 z3
  subst z1 z3
  have HRR := Lib.hid hr
  unfold maxLen at hcap2
  rw [hL] at hcap1
  clear hE hZF hL hN hok hRC HU hall hr z2
  obtain ⟨hh, hhh⟩ : ∃ x, x = w.heap.size := ⟨_, rfl⟩
  have HH := Lib.hid hhh
  obtain ⟨W0, hW0⟩ : ∃ x, x = w.alloc (.cells #[.int .i64 (R : Int), .int .i64 (C : Int), .slice a n cap] 25) := ⟨_, rfl⟩
  have D0 := Lib.hid (show B3 W0 hh 25 (.int .i64 (R : Int)) (.int .i64 (C : Int)) (.slice a n cap) by rw [hW0, hhh]; exact B3.new _ _ _ _ _)
  have B0 := Lib.hid (show Below w.heap.size w W0 by rw [hW0]; exact (Below.refl _ _).alloc (Nat.le_refl _) _)
  have hs0 : W0.heap.size = hh + 1 := by rw [hW0, hhh]; simp
  have HW := Lib.hid hW0.symm
  have ZM := Lib.hid (fun W => make_rats n (by omega) W)
  clear hhh hW0
  go_enter Tryz.func58, Tryz.ntmps58
  go_upto_region 1 with (rw [HW.out])
  rw [← HH.out]
  have HS := Lib.hid (show ∀ W : World, Below W0.heap.size W0 W → (W.cell? ⟨hh, 0, none⟩ = some (.int .i64 (R : Int)) ∧ W.cell? ⟨hh, 1, none⟩ = some (.int .i64 (C : Int)) ∧ W.cell? ⟨hh, 2, none⟩ = some (.slice a n cap)) from fun W hW => ⟨(D0.out.below hW).c0, (D0.out.below hW).c1, (D0.out.below hW).c2⟩)
  have d0 := D0.out.c0
  have d1 := D0.out.c1
  have d2 := D0.out.c2
  replace ZM := ZM.out
  go_region_held3 (fun w' => w'.cell? ⟨hh, 0, none⟩ = some (.int .i64 (R : Int)) ∧ w'.cell? ⟨hh, 1, none⟩ = some (.int .i64 (C : Int)) ∧ w'.cell? ⟨hh, 2, none⟩ = some (.slice a n cap))
    (exact HS.out _ (by first | with_reducible exact Below.refl _ _ | with_reducible exact (Below.refl _ _).drew | with_reducible exact (Below.refl _ _).alloc (Nat.le_refl _) _ | with_reducible exact ((Below.refl _ _).alloc (Nat.le_refl _) _).drew | with_reducible exact ((Below.refl _ _).alloc (Nat.le_refl _) _).alloc (by simp) _ | with_reducible exact (((Below.refl _ _).alloc (Nat.le_refl _) _).alloc (by simp) _).drew | fail))
    (first | fail | fail)
  obtain ⟨W1, hW1⟩ : ∃ x, x = ((W0.alloc (zeroV n)).alloc (.cells #[.int .i64 (R : Int), .int .i64 (C : Int), .slice (some ⟨hh + 1, 0, none⟩) n n, .slice none 0 0, .slice none 0 0] 79)).drew := ⟨_, rfl⟩
  have b1 := (show Below W0.heap.size W0 W1 by rw [hW1]; exact (((Below.refl _ _).alloc (Nat.le_refl _) _).alloc (by simp) _).drew)
  have D1 := Lib.hid (D0.out.below b1)
  have P1 := Lib.hid (show ∃ xs, PrS W1 w.heap.size (hh + 1 + 1) (some ⟨hh + 1, 0, none⟩) n n R C (startE (cpL L n 0) C) (.slice none 0 0) (.slice none 0 0) xs [] by
    have hV := zeroV_own W0 w.heap.size n (by rw [← HH.out]; omega) (by omega)
    rw [hs0] at hV
    have hlt := hV.lt
    have hsz : (W0.alloc (zeroV n)).heap.size = hh + 1 + 1 := by simp [hs0]
    have eL : tabM R C (elM (cpL L n 0) C) = List.replicate n Fr.zero := by
      rw [tabM_self (by rw [cpL_len HL.out (Nat.zero_le _)]; exact HN.out)]
      simp [cpL]
    refine ⟨List.replicate n (Value.slice none 0 0, Value.slice none 0 0), ⟨?_, ⟨?_, OwnI.nil _ _, World.ownsRow_nil _ _ _ _, rfl, fun i hi => by simp [startE] at hi, fun q hq => by simp at hq, fun k hk e => by simp [Value.ownBlock] at e, fun k hk e => by simp [Value.ownBlock] at e, fun k e => by simp [Value.ownBlock] at e, fun q hq => by simp at hq⟩, ?_, by rw [← HH.out]; omega⟩⟩
    · rw [hW1]
      have h9 := B5.new (W0.alloc (zeroV n)) 79 (.int .i64 (R : Int)) (.int .i64 (C : Int)) (.slice (some ⟨hh + 1, 0, none⟩) n n) (.slice none 0 0) (.slice none 0 0)
      rw [hsz] at h9
      exact h9.drew
    · rw [startE_g]
      show OwnV W1 _ _ (tabM R C (elM (cpL L n 0) C)) _
      rw [eL, hW1]
      exact (hV.alloc _).drew
    · rintro k (h1 | h1 | h1 | ⟨q, hq, h1⟩)
      · have := (hlt k h1).2; omega
      · simp [Value.ownBlock] at h1
      · simp [Value.ownBlock] at h1
      · simp at hq)
  have B1 := Lib.hid (B0.out.trans (b1.mono B0.out.size))
  have hs1 : W1.heap.size = hh + 1 + 1 + 1 := by rw [hW1]; show ((W0.alloc (zeroV n)).alloc _).heap.size = _; simp [hs0]
  have HW1 := Lib.hid hW1.symm
  clear hW1 b1 ZM HS d0 d1 d2
  have d0 := D1.out.c0
  have d1 := D1.out.c1
  have d2 := D1.out.c2
  go_wp2_with (rw [HW1.out])
  go_loopw [21] (fun cv wr => ∃ (k : Nat) (xs : List (Value × Value)), k ≤ n ∧ cv = .int .i64 k ∧ Hid (PrS wr w.heap.size (hh + 1 + 1) (some ⟨hh + 1, 0, none⟩) n n R C (startE (cpL L n k) C) (.slice none 0 0) (.slice none 0 0) xs []) ∧ Hid (Below w.heap.size w wr)) (fun cv _ => n - (intOf cv).toNat)
  case atStart =>
    obtain ⟨xs, hx⟩ := P1.out
    exact ⟨0, xs, Nat.zero_le _, rfl, Lib.hid hx, B1⟩
  case round =>
    clear P1 B1 D1 d0 d1 d2
    obtain ⟨k, xs, hk, rfl, P, BB⟩ := hrel
    by_cases hlt : k < n
    · have hltL : k < L.length := by rw [HL.out]; exact hlt
      obtain ⟨b, o, x, y, rfl, c0', c1', c2', hrr⟩ := HRR.out k hltL
      have s0 := (BB.out.cell (World.block_lt_of_cell? w _ c0')).trans c0'
      have s1 := (BB.out.cell (World.block_lt_of_cell? w _ c1')).trans c1'
      have s2 := (BB.out.cell (World.block_lt_of_cell? w _ c2')).trans c2'
      have HOF := Lib.hid (HOK.out k hltL)
      obtain ⟨f, hf⟩ : ∃ f, f = L[k]'hltL := ⟨_, rfl⟩
      rw [← hf] at s0 hrr HOF
      have HF := Lib.hid hf
      obtain ⟨a1, r1, a3, r3, rfl, rfl, hz1, hz2⟩ := rowR_len hrr
      have RR := Lib.hid (hrr.below BB.out)
      clear hf c0' c1' c2' hrr
      go_upto_region 5 with fail
      obtain ⟨p6, hp6⟩ : ∃ x, x = wr.heap.size := ⟨_, rfl⟩
      obtain ⟨W5, hW5⟩ : ∃ x, x = wr.alloc (.cells #[.bool f.neg, .slice a1 f.mag.length r1, .slice a3 f.den.length r3] 34) := ⟨_, rfl⟩
      have b5 := (show Below wr.heap.size wr W5 by rw [hW5]; exact (Below.refl _ _).alloc (Nat.le_refl _) _)
      have F6 := Lib.hid (show B3 W5 p6 34 (.bool f.neg) (.slice a1 f.mag.length r1) (.slice a3 f.den.length r3) by rw [hW5, hp6]; exact B3.new _ _ _ _ _)
      have P5 := Lib.hid (P.out.below b5)
      have R5 := Lib.hid (RR.out.below b5)
      have hBw : w.heap.size ≤ W5.heap.size := Nat.le_trans BB.out.size b5.size
      have BB5 := Lib.hid (BB.out.trans (b5.mono BB.out.size))
      have hpp : hh + 1 + 1 < p6 := by rw [hp6]; exact P.out.D.lt
      rw [← hW5, ← hp6]
      clear hW5 hp6 b5 s0 s1 s2 P BB RR
      have HCL := Lib.hid (fun W (hW : Below W5.heap.size W5 W) => (impl_cloneF f HOF.out _ _ W (R5.out.below hW)).mono (R' := fun e w' => ∃ a c d b, e = .returned (.agg #[.bool f.neg, .slice a f.mag.length c, .slice d f.den.length b]) ∧ OwnR w' W5.heap.size (.slice a f.mag.length c) f.mag (.slice d f.den.length b) f.den ∧ Below W5.heap.size W5 w') (fun e w' ⟨u, v, he, ho, hb⟩ => by
        obtain ⟨a, c, d, b, rfl, rfl⟩ := ho.slices
        exact ⟨a, c, d, b, he, ho.base hW.size, hW.trans (hb.mono hW.size)⟩))
      have hlt3 : k < (tabM R C (elM (cpL L n k) C)).length := by rw [tabM_len, ← HN.out]; exact hlt
      have VH := Lib.hid (fun W (hW : Below W5.heap.size W5 W) => (show OwnV W5 _ _ (tabM R C (elM (cpL L n k) C)) xs from P5.out.S.V).below hW)
      have HT := Lib.hid (show ∀ W : World, Below W5.heap.size W5 W → ((∃ u0, W.cell? ⟨hh + 1, k * 3, none⟩ = some u0) ∧ (∃ u1, W.cell? ⟨hh + 1, k * 3 + 1, none⟩ = some u1) ∧ (∃ u2, W.cell? ⟨hh + 1, k * 3 + 2, none⟩ = some u2)) ∧ W.frozen? ⟨hh + 1, k * 3, none⟩ = false ∧ W.frozen? ⟨hh + 1, k * 3 + 1, none⟩ = false ∧ W.frozen? ⟨hh + 1, k * 3 + 2, none⟩ = false from fun W hW => by
        have OK := VH.out W hW
        obtain ⟨s0, s1, s2⟩ := OK.cells k hlt3 (by rw [OK.len]; exact hlt3)
        exact ⟨⟨⟨_, s0⟩, ⟨_, s1⟩, ⟨_, s2⟩⟩, OK.frozen _, OK.frozen _, OK.frozen _⟩)
      have HS := Lib.hid (show ∀ W : World, Below W5.heap.size W5 W → (W.cell? ⟨hh + 1 + 1, 2, none⟩ = some (.slice (some ⟨hh + 1, 0, none⟩) n n) ∧ W.cell? ⟨p6, 0, none⟩ = some (.bool f.neg) ∧ W.cell? ⟨p6, 1, none⟩ = some (.slice a1 f.mag.length r1) ∧ W.cell? ⟨p6, 2, none⟩ = some (.slice a3 f.den.length r3)) from fun W hW => ⟨(P5.out.D.below hW).c2, (F6.out.below hW).c0, (F6.out.below hW).c1, (F6.out.below hW).c2⟩)
      have d2 := P5.out.D.c2
      have f0 := F6.out.c0
      have f1 := F6.out.c1
      have f2 := F6.out.c2
      have x1 : (0 : Int) ≤ (k : Int) := by omega
      have x2 : (k : Int) < (n : Int) := by omega
      go_region_held3 (fun w' => w'.cell? ⟨hh + 1 + 1, 2, none⟩ = some (.slice (some ⟨hh + 1, 0, none⟩) n n) ∧ w'.cell? ⟨p6, 0, none⟩ = some (.bool f.neg) ∧ w'.cell? ⟨p6, 1, none⟩ = some (.slice a1 f.mag.length r1) ∧ w'.cell? ⟨p6, 2, none⟩ = some (.slice a3 f.den.length r3))
        (first | exact HS.out _ (by first | with_reducible exact Below.refl _ _ | with_reducible exact (Below.refl _ _).drew | with_reducible exact bb_a | fail) | exact ⟨(cell_farq (show hh + 1 + 1 ≠ hh + 1 from by omega) _ _ _).trans ((HS.out _ (by first | with_reducible exact Below.refl _ _ | with_reducible exact (Below.refl _ _).drew | with_reducible exact bb_a | fail)).1), (cell_farq (show p6 ≠ hh + 1 from by omega) _ _ _).trans ((HS.out _ (by first | with_reducible exact Below.refl _ _ | with_reducible exact (Below.refl _ _).drew | with_reducible exact bb_a | fail)).2.1), (cell_farq (show p6 ≠ hh + 1 from by omega) _ _ _).trans ((HS.out _ (by first | with_reducible exact Below.refl _ _ | with_reducible exact (Below.refl _ _).drew | with_reducible exact bb_a | fail)).2.2.1), (cell_farq (show p6 ≠ hh + 1 from by omega) _ _ _).trans ((HS.out _ (by first | with_reducible exact Below.refl _ _ | with_reducible exact (Below.refl _ _).drew | with_reducible exact bb_a | fail)).2.2.2)⟩)
        (first
          | (go_at_call 102; refine (HCL.out _ (by first | with_reducible exact Below.refl _ _ | with_reducible exact (Below.refl _ _).drew | with_reducible exact bb_a | fail)).mono ?_; rintro ee w_a ⟨a_s, c_s, d_s, b_s, rfl, o_s, bb_a⟩; obtain ⟨⟨⟨v0, t0⟩, ⟨v1, t1⟩, ⟨v2, t2⟩⟩, t3, t4, t5⟩ := HT.out _ bb_a))
      all_goals (have lr := o_s.lt)
      all_goals (have L9 := P5.out.S.V.lt)
      all_goals (have VF := (VH.out _ bb_a).set3 k f _ _ hlt3 (OwnR.base o_s hBw) (fun a ha _ r r' e1 e2 => by have h3 := (L9 r (.inr ⟨_, List.getElem_mem ha, e1⟩)).2; have h4 := (lr r' e2).1; omega) (fun r e2 => by have h4 := (lr r e2).1; have := (L9 (hh + 1) (.inl rfl)).2; omega))
      all_goals (have KF := ((kept_set w_a (hh + 1) (k * 3) (.bool f.neg)).trans (kept_set _ (hh + 1) (k * 3 + 1) (.slice a_s f.mag.length c_s))).trans (kept_set _ (hh + 1) (k * 3 + 2) (.slice d_s f.den.length b_s)))
      all_goals (have WB := (Kept.of_below (S := fun j => j = hh + 1) bb_a).trans KF)
      all_goals (rw [tabM_self (by rw [cpL_len HL.out hk]; exact HN.out), show (cpL L n k).set k f = tabM R C (elM (cpL L n (k + 1)) C) by rw [tabM_self (by rw [cpL_len HL.out (by omega)]; exact HN.out), HF.out]; exact take_set HL.out hlt] at VF)
      all_goals (have PF := Lib.hid (P5.out.cells VF WB (fun b hb => .inl (by rw [hb]; rfl)) (onV_set (n := W5.heap.size) (fun r e2 => (lr r e2).1))))
      all_goals (have BF := Lib.hid (((((BB5.out.trans (bb_a.mono hBw))).setCell (p := ⟨hh + 1, k * 3, none⟩) (by show w.heap.size ≤ hh + 1; rw [← HH.out]; omega) (.bool f.neg)).setCell (p := ⟨hh + 1, k * 3 + 1, none⟩) (by show w.heap.size ≤ hh + 1; rw [← HH.out]; omega) (.slice a_s f.mag.length c_s)).setCell (p := ⟨hh + 1, k * 3 + 2, none⟩) (by show w.heap.size ≤ hh + 1; rw [← HH.out]; omega) (.slice d_s f.den.length b_s)))
      all_goals clear VF KF WB HT HS HCL VH o_s t0 t1 t2 t3 t4 t5 bb_a d2 f0 f1 f2 lr L9
      all_goals go_wp2_with fail
      all_goals exact ⟨⟨k + 1, _, by omega, by go_num, PF, BF⟩, by simp [intOf]; omega⟩
    · obtain rfl : k = n := by omega
      have PE := Lib.hid (show PrS wr w.heap.size (hh + 1 + 1) (some ⟨hh + 1, 0, none⟩) k k R C (startE L C) (.slice none 0 0) (.slice none 0 0) xs [] by
        have h9 := P.out
        have e9 : cpL L k k = L := by unfold cpL; rw [Nat.sub_self, List.replicate_zero, List.append_nil, ← HL.out, List.take_length]
        rw [e9] at h9
        exact h9)
      have HFI := Lib.hid (HFH.out _ _ _ wr PE.out BB.out.size)
      clear HFH P
      go_wp2_with fail
      refine (HFI.out).mono ?_
      rintro ee w2 ⟨rfl, hv, b2⟩
      have HV := Lib.hid hv
      have B2 := Lib.hid (BB.out.trans b2)
      clear hv b2 HFI
      go_wp2_with fail
      exact bodyPost_ret (v := .tuple #[.pointer (some ⟨hh + 1 + 1, 0, none⟩), .bool ZF]) (by simp [results, Tryz.results58, go_sem]) rfl ⟨_, rfl, (fun h => by obtain ⟨a, b, c, d, h9⟩ := HV.out h; exact ⟨_, a, b, c, d, h9⟩), B2.out⟩

end Go.Proofs.YtlepgkkpopjgoaaGreat
