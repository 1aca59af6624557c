/- EqualVectors of the model and of the program, RatEqual's contract open. -/
import Derived.Test.YtojklmckjebplaaVecx
namespace Go.Proofs.Ytojklmckjebplaa
open Go.RowKit Go.WideShapes Go.ChangeShapes
set_option linter.unusedVariables false
theorem zw_take {α : Type} {f : Fr → Fr → α} {A B : List Fr} {k : Nat} (h0 : k < A.length) (h1 : k < B.length) : List.zipWith f (A.take (k + 1)) (B.take (k + 1)) = List.zipWith f (A.take k) (B.take k) ++ [f (A[k]'h0) (B[k]'h1)] := by
  rw [List.take_succ_eq_append_getElem h0, List.take_succ_eq_append_getElem h1, List.zipWith_append (by simp; omega)]
  rfl
def eqV (q : Fr → Fr → Bool) (A B : List Fr) : Bool := decide (A.length = B.length) && (List.zipWith q A B).all id
theorem eqV_len {q : Fr → Fr → Bool} {A B : List Fr} (h : ¬ A.length = B.length) : eqV q A B = false := by unfold eqV; rw [decide_eq_false h]; rfl
theorem eqV_no {q : Fr → Fr → Bool} {A B : List Fr} {k : Nat} (h0 : k < A.length) (h1 : k < B.length) (h : q (A[k]'h0) (B[k]'h1) = false) : eqV q A B = false := by
  unfold eqV
  have : (List.zipWith q A B).all id = false := by
    rw [List.all_eq_false]
    exact ⟨q (A[k]'h0) (B[k]'h1), List.mem_iff_getElem.2 ⟨k, by simp; omega, by simp⟩, by simp [h]⟩
  rw [this, Bool.and_false]

set_option maxRecDepth 100000 in
set_option maxHeartbeats 2000000 in
theorem spec_eqV (q : Fr → Fr → Bool)
    (HEQ : ∀ (f g : Fr) v d v' d' w, RowR w v f.mag d f.den → RowR w v' g.mag d' g.den → Calls Try.prog 110 #[.agg #[.bool f.neg, v, d], .agg #[.bool g.neg, v', d']] w fun r w' => r = .returned (.bool (q f g)) ∧ Below w.heap.size w w')
    (v0 : Value) (L0 : List Fr) (v1 : Value) (L1 : List Fr) (w : World) (h0 : RatsAt w v0 L0) (h1 : RatsAt w v1 L1) :
    Calls Try.prog 80 #[v0, v1] w fun e w' => e = .returned (.bool (eqV q L0 L1)) ∧ Below w.heap.size w w' := by
  by_cases hl1 : L0.length = L1.length
  rotate_left
  · rw [eqV_len hl1]
    obtain ⟨a, cap, rfl, hc, hm, hr⟩ := h0
    obtain ⟨a', cap', rfl, hc', hm', hr'⟩ := h1
    clear hr hr'
    unfold maxLen at hm hm'
    have hne : ((L0.length : Int) == (L1.length : Int)) = false := by rw [beq_eq_false_iff_ne]; omega
    go_enter Try.func80, Try.ntmps80
    go_wp2
    go_ret
    exact ⟨rfl, Below.refl _ _⟩
  obtain ⟨a, cap, rfl, hc, hm, hr⟩ := h0
  obtain ⟨a', cap', rfl, hc', hm', hr'⟩ := h1
  unfold maxLen at hm hm'
  have R := Lib.hid hr
  have R' := Lib.hid hr'
  clear hr hr'
  obtain ⟨n, hnn⟩ : ∃ n, L0.length = n := ⟨_, rfl⟩
  have HN1 := Lib.hid hl1
  rw [hnn] at hl1
  rw [← hl1] at hc' ⊢
  rw [hnn] at hc ⊢
  have HN := Lib.hid hnn
  clear hnn hl1
  obtain ⟨r, hr⟩ : ∃ r, r = eqV q L0 L1 := ⟨_, rfl⟩
  rw [← hr]
  have HR := Lib.hid hr
  clear hr
  go_enter Try.func80, Try.ntmps80
  go_wp2_with fail
  have HB := Lib.hid (Below.refl w.heap.size w)
  go_loopw [14] (fun iv wr => ∃ k : Nat, k ≤ n ∧ iv = .int .i64 k ∧ Hid ((List.zipWith q (L0.take k) (L1.take k)).all id = true) ∧ Hid (Below w.heap.size w wr)) (fun iv _ => n - (intOf iv).toNat)
  case atStart => exact ⟨0, Nat.zero_le _, rfl, Lib.hid (by simp), HB⟩
  case round =>
    obtain ⟨k, hk, rfl, HA, HBk⟩ := hrel
    by_cases hlt : k < n
    · skip
      have hlt0 : k < L0.length := by rw [HN.out]; exact hlt
      have hlt1 : k < L1.length := by rw [← HN1.out, HN.out]; exact hlt
      obtain ⟨b, o, x, y, rfl, c0, c1, c2, hrr⟩ := R.out k hlt0
      obtain ⟨b', o', x', y', rfl, e0, e1, e2, hss⟩ := R'.out k hlt1
      have d0 := (HBk.out.cell (World.block_lt_of_cell? w _ c0)).trans c0
      have d1 := (HBk.out.cell (World.block_lt_of_cell? w _ c1)).trans c1
      have d2 := (HBk.out.cell (World.block_lt_of_cell? w _ c2)).trans c2
      have f0 := (HBk.out.cell (World.block_lt_of_cell? w _ e0)).trans e0
      have f1 := (HBk.out.cell (World.block_lt_of_cell? w _ e1)).trans e1
      have f2 := (HBk.out.cell (World.block_lt_of_cell? w _ e2)).trans e2
      have RR := Lib.hid (hrr.below HBk.out)
      have SS := Lib.hid (hss.below HBk.out)
      have hb0 := World.block_lt_of_cell? w _ e0
      obtain ⟨a1, r1, a2, r2, rfl, rfl, hz1, hz2⟩ := rowR_len hrr
      obtain ⟨a3, r3, a4, r4, rfl, rfl, hz3, hz4⟩ := rowR_len hss
      clear c0 c1 c2 R hrr e0 e1 e2 R' hss
      cases hq : q (L0[k]'hlt0) (L1[k]'hlt1) with
      | true =>
        go_wp2_with fail
        obtain ⟨wb, hwb⟩ : ∃ x, x = wr.alloc (.cells #[.bool (L0[k]'hlt0).neg, .slice a1 (L0[k]'hlt0).mag.length r1, .slice a2 (L0[k]'hlt0).den.length r2] 42) := ⟨_, rfl⟩
        obtain ⟨G, hG⟩ : ∃ x, x = wr.heap.size := ⟨_, rfl⟩
        have bA := (Below.refl wr.heap.size wr).alloc (Nat.le_refl _) (.cells #[.bool (L0[k]'hlt0).neg, .slice a1 (L0[k]'hlt0).mag.length r1, .slice a2 (L0[k]'hlt0).den.length r2] 42)
        have X := Lib.hid (show Rx wb G 42 (L0[k]'hlt0).neg (.slice a1 (L0[k]'hlt0).mag.length r1) (.slice a2 (L0[k]'hlt0).den.length r2) by rw [hwb, hG]; exact Rx.new _ _ _ _ _)
        have B9 := Lib.hid (show Below w.heap.size w wb by rw [hwb]; exact HBk.out.alloc HBk.out.size _)
        have bW := Lib.hid (show Below wr.heap.size wr wb by rw [hwb]; exact bA)
        rw [← hwb, ← hG]
        clear hwb hG bA HBk
        have g0 := X.out.c0
        have g1 := X.out.c1
        have g2 := X.out.c2
        replace f0 := (bW.out.cell (World.block_lt_of_cell? _ _ f0)).trans f0
        replace f1 := (bW.out.cell (World.block_lt_of_cell? _ _ f1)).trans f1
        replace f2 := (bW.out.cell (World.block_lt_of_cell? _ _ f2)).trans f2
        clear d0 d1 d2
        have K_r := Lib.hid (fun (W : World) (hW : Below wb.heap.size wb W) => (HEQ (L0[k]'hlt0) (L1[k]'hlt1) _ _ _ _ W ((RR.out.below bW.out).below hW) ((SS.out.below bW.out).below hW)).mono (R' := fun r w' => r = .returned (.bool true) ∧ Below wb.heap.size wb w') (fun r w' ⟨he, hb⟩ => ⟨by rw [he, hq], hW.trans (hb.mono hW.size)⟩))
        have HS := Lib.hid (show ∀ W : World, Below wb.heap.size wb W → (W.cell? ⟨G, 0, none⟩ = some (.bool (L0[k]'hlt0).neg) ∧ W.cell? ⟨G, 1, none⟩ = some (.slice a1 (L0[k]'hlt0).mag.length r1) ∧ W.cell? ⟨G, 2, none⟩ = some (.slice a2 (L0[k]'hlt0).den.length r2) ∧ W.cell? ⟨b', o' + k * 3, none⟩ = some (.bool (L1[k]'hlt1).neg) ∧ W.cell? ⟨b', o' + k * 3 + 1, none⟩ = some (.slice a3 (L1[k]'hlt1).mag.length r3) ∧ W.cell? ⟨b', o' + k * 3 + 2, none⟩ = some (.slice a4 (L1[k]'hlt1).den.length r4)) from fun W hW => ⟨(hW.cell (World.block_lt_of_cell? wb _ g0)).trans g0, (hW.cell (World.block_lt_of_cell? wb _ g1)).trans g1, (hW.cell (World.block_lt_of_cell? wb _ g2)).trans g2, (hW.cell (World.block_lt_of_cell? wb _ f0)).trans f0, (hW.cell (World.block_lt_of_cell? wb _ f1)).trans f1, (hW.cell (World.block_lt_of_cell? wb _ f2)).trans f2⟩)
        go_region_held3 (fun w' => w'.cell? ⟨G, 0, none⟩ = some (.bool (L0[k]'hlt0).neg) ∧ w'.cell? ⟨G, 1, none⟩ = some (.slice a1 (L0[k]'hlt0).mag.length r1) ∧ w'.cell? ⟨G, 2, none⟩ = some (.slice a2 (L0[k]'hlt0).den.length r2) ∧ w'.cell? ⟨b', o' + k * 3, none⟩ = some (.bool (L1[k]'hlt1).neg) ∧ w'.cell? ⟨b', o' + k * 3 + 1, none⟩ = some (.slice a3 (L1[k]'hlt1).mag.length r3) ∧ w'.cell? ⟨b', o' + k * 3 + 2, none⟩ = some (.slice a4 (L1[k]'hlt1).den.length r4)) (first | exact HS.out _ (by first | with_reducible exact Below.refl _ _ | with_reducible exact (Below.refl _ _).drew | with_reducible exact bb_r | with_reducible exact bb_r.drew | fail) | fail)
          (first
            | (go_at_call 110; refine (K_r.out _ (by first | with_reducible exact Below.refl _ _ | with_reducible exact (Below.refl _ _).drew | with_reducible exact bb_r | with_reducible exact bb_r.drew | fail)).mono ?_; rintro e w_r ⟨rfl, bb_r⟩))
        all_goals have BB := Lib.hid (B9.out.trans (bb_r.mono B9.out.size))
        all_goals go_wp2_with fail
        all_goals exact ⟨⟨k + 1, by omega, by go_num, Lib.hid (by rw [zw_take hlt0 hlt1, List.all_append, HA.out]; simp [hq]), BB⟩, by simp [intOf]; omega⟩
      | false =>
        go_wp2_with fail
        obtain ⟨wb, hwb⟩ : ∃ x, x = wr.alloc (.cells #[.bool (L0[k]'hlt0).neg, .slice a1 (L0[k]'hlt0).mag.length r1, .slice a2 (L0[k]'hlt0).den.length r2] 42) := ⟨_, rfl⟩
        obtain ⟨G, hG⟩ : ∃ x, x = wr.heap.size := ⟨_, rfl⟩
        have bA := (Below.refl wr.heap.size wr).alloc (Nat.le_refl _) (.cells #[.bool (L0[k]'hlt0).neg, .slice a1 (L0[k]'hlt0).mag.length r1, .slice a2 (L0[k]'hlt0).den.length r2] 42)
        have X := Lib.hid (show Rx wb G 42 (L0[k]'hlt0).neg (.slice a1 (L0[k]'hlt0).mag.length r1) (.slice a2 (L0[k]'hlt0).den.length r2) by rw [hwb, hG]; exact Rx.new _ _ _ _ _)
        have B9 := Lib.hid (show Below w.heap.size w wb by rw [hwb]; exact HBk.out.alloc HBk.out.size _)
        have bW := Lib.hid (show Below wr.heap.size wr wb by rw [hwb]; exact bA)
        rw [← hwb, ← hG]
        clear hwb hG bA HBk
        have g0 := X.out.c0
        have g1 := X.out.c1
        have g2 := X.out.c2
        replace f0 := (bW.out.cell (World.block_lt_of_cell? _ _ f0)).trans f0
        replace f1 := (bW.out.cell (World.block_lt_of_cell? _ _ f1)).trans f1
        replace f2 := (bW.out.cell (World.block_lt_of_cell? _ _ f2)).trans f2
        clear d0 d1 d2
        have K_r := Lib.hid (fun (W : World) (hW : Below wb.heap.size wb W) => (HEQ (L0[k]'hlt0) (L1[k]'hlt1) _ _ _ _ W ((RR.out.below bW.out).below hW) ((SS.out.below bW.out).below hW)).mono (R' := fun r w' => r = .returned (.bool false) ∧ Below wb.heap.size wb w') (fun r w' ⟨he, hb⟩ => ⟨by rw [he, hq], hW.trans (hb.mono hW.size)⟩))
        have HS := Lib.hid (show ∀ W : World, Below wb.heap.size wb W → (W.cell? ⟨G, 0, none⟩ = some (.bool (L0[k]'hlt0).neg) ∧ W.cell? ⟨G, 1, none⟩ = some (.slice a1 (L0[k]'hlt0).mag.length r1) ∧ W.cell? ⟨G, 2, none⟩ = some (.slice a2 (L0[k]'hlt0).den.length r2) ∧ W.cell? ⟨b', o' + k * 3, none⟩ = some (.bool (L1[k]'hlt1).neg) ∧ W.cell? ⟨b', o' + k * 3 + 1, none⟩ = some (.slice a3 (L1[k]'hlt1).mag.length r3) ∧ W.cell? ⟨b', o' + k * 3 + 2, none⟩ = some (.slice a4 (L1[k]'hlt1).den.length r4)) from fun W hW => ⟨(hW.cell (World.block_lt_of_cell? wb _ g0)).trans g0, (hW.cell (World.block_lt_of_cell? wb _ g1)).trans g1, (hW.cell (World.block_lt_of_cell? wb _ g2)).trans g2, (hW.cell (World.block_lt_of_cell? wb _ f0)).trans f0, (hW.cell (World.block_lt_of_cell? wb _ f1)).trans f1, (hW.cell (World.block_lt_of_cell? wb _ f2)).trans f2⟩)
        go_region_held3 (fun w' => w'.cell? ⟨G, 0, none⟩ = some (.bool (L0[k]'hlt0).neg) ∧ w'.cell? ⟨G, 1, none⟩ = some (.slice a1 (L0[k]'hlt0).mag.length r1) ∧ w'.cell? ⟨G, 2, none⟩ = some (.slice a2 (L0[k]'hlt0).den.length r2) ∧ w'.cell? ⟨b', o' + k * 3, none⟩ = some (.bool (L1[k]'hlt1).neg) ∧ w'.cell? ⟨b', o' + k * 3 + 1, none⟩ = some (.slice a3 (L1[k]'hlt1).mag.length r3) ∧ w'.cell? ⟨b', o' + k * 3 + 2, none⟩ = some (.slice a4 (L1[k]'hlt1).den.length r4)) (first | exact HS.out _ (by first | with_reducible exact Below.refl _ _ | with_reducible exact (Below.refl _ _).drew | with_reducible exact bb_r | with_reducible exact bb_r.drew | fail) | fail)
          (first
            | (go_at_call 110; refine (K_r.out _ (by first | with_reducible exact Below.refl _ _ | with_reducible exact (Below.refl _ _).drew | with_reducible exact bb_r | with_reducible exact bb_r.drew | fail)).mono ?_; rintro e w_r ⟨rfl, bb_r⟩))
        all_goals have BB := Lib.hid (B9.out.trans (bb_r.mono B9.out.size))
        all_goals (go_wp2_with fail; go_ret; exact ⟨by rw [HR.out, eqV_no hlt0 hlt1 hq]; rfl, BB.out⟩)
    · obtain rfl : k = n := by omega
      have hT0 : L0.take k = L0 := by rw [← HN.out, List.take_length]
      have hT1 : L1.take k = L1 := by rw [← HN.out, HN1.out, List.take_length]
      rw [hT0, hT1] at HA
      go_wp2
      go_ret
      exact ⟨by rw [HR.out, eqV, HA.out, decide_eq_true HN1.out]; rfl, HBk.out⟩

set_option maxRecDepth 100000 in
set_option maxHeartbeats 2000000 in
theorem impl_eqV (q : Fr → Fr → Bool)
    (HEQ : ∀ (f g : Fr) v d v' d' w, RowR w v f.mag d f.den → RowR w v' g.mag d' g.den → Calls Try.prog 21 #[.agg #[.bool f.neg, v, d], .agg #[.bool g.neg, v', d']] w fun r w' => r = .returned (.bool (q f g)) ∧ Below w.heap.size w w')
    (v0 : Value) (L0 : List Fr) (v1 : Value) (L1 : List Fr) (w : World) (h0 : RatsAt w v0 L0) (h1 : RatsAt w v1 L1) :
    Calls Try.prog 56 #[v0, v1, .func (.func 21) #[] #[]] w fun e w' => e = .returned (.bool (eqV q L0 L1)) ∧ Below w.heap.size w w' := by
  by_cases hl1 : L0.length = L1.length
  rotate_left
  · rw [eqV_len hl1]
    obtain ⟨a, cap, rfl, hc, hm, hr⟩ := h0
    obtain ⟨a', cap', rfl, hc', hm', hr'⟩ := h1
    clear hr hr'
    unfold maxLen at hm hm'
    have hne : ((L0.length : Int) == (L1.length : Int)) = false := by rw [beq_eq_false_iff_ne]; omega
    go_enter Try.func56, Try.ntmps56
    go_wp2
    go_ret
    exact ⟨rfl, Below.refl _ _⟩
  obtain ⟨a, cap, rfl, hc, hm, hr⟩ := h0
  obtain ⟨a', cap', rfl, hc', hm', hr'⟩ := h1
  unfold maxLen at hm hm'
  have R := Lib.hid hr
  have R' := Lib.hid hr'
  clear hr hr'
  obtain ⟨n, hnn⟩ : ∃ n, L0.length = n := ⟨_, rfl⟩
  have HN1 := Lib.hid hl1
  rw [hnn] at hl1
  rw [← hl1] at hc' ⊢
  rw [hnn] at hc ⊢
  have HN := Lib.hid hnn
  clear hnn hl1
  obtain ⟨r, hr⟩ : ∃ r, r = eqV q L0 L1 := ⟨_, rfl⟩
  rw [← hr]
  have HR := Lib.hid hr
  clear hr
  go_enter Try.func56, Try.ntmps56
  go_wp2_with fail
  have HB := Lib.hid (Below.refl w.heap.size w)
  go_loopw [17] (fun iv wr => ∃ k : Nat, k ≤ n ∧ iv = .int .i64 k ∧ Hid ((List.zipWith q (L0.take k) (L1.take k)).all id = true) ∧ Hid (Below w.heap.size w wr)) (fun iv _ => n - (intOf iv).toNat)
  case atStart => exact ⟨0, Nat.zero_le _, rfl, Lib.hid (by simp), HB⟩
  case round =>
    obtain ⟨k, hk, rfl, HA, HBk⟩ := hrel
    by_cases hlt : k < n
    · skip
      have hlt0 : k < L0.length := by rw [HN.out]; exact hlt
      have hlt1 : k < L1.length := by rw [← HN1.out, HN.out]; exact hlt
      obtain ⟨b, o, x, y, rfl, c0, c1, c2, hrr⟩ := R.out k hlt0
      obtain ⟨b', o', x', y', rfl, e0, e1, e2, hss⟩ := R'.out k hlt1
      have d0 := (HBk.out.cell (World.block_lt_of_cell? w _ c0)).trans c0
      have d1 := (HBk.out.cell (World.block_lt_of_cell? w _ c1)).trans c1
      have d2 := (HBk.out.cell (World.block_lt_of_cell? w _ c2)).trans c2
      have f0 := (HBk.out.cell (World.block_lt_of_cell? w _ e0)).trans e0
      have f1 := (HBk.out.cell (World.block_lt_of_cell? w _ e1)).trans e1
      have f2 := (HBk.out.cell (World.block_lt_of_cell? w _ e2)).trans e2
      have RR := Lib.hid (hrr.below HBk.out)
      have SS := Lib.hid (hss.below HBk.out)
      have hb0 := World.block_lt_of_cell? w _ e0
      obtain ⟨a1, r1, a2, r2, rfl, rfl, hz1, hz2⟩ := rowR_len hrr
      obtain ⟨a3, r3, a4, r4, rfl, rfl, hz3, hz4⟩ := rowR_len hss
      clear c0 c1 c2 R hrr e0 e1 e2 R' hss
      cases hq : q (L0[k]'hlt0) (L1[k]'hlt1) with
      | true =>
        have bX := (Below.refl wr.heap.size wr).alloc (Nat.le_refl _) (.cells #[.bool (L0[k]'hlt0).neg, .slice a1 (L0[k]'hlt0).mag.length r1, .slice a2 (L0[k]'hlt0).den.length r2] 42)
        have i0 := (bX.cell (World.block_lt_of_cell? _ _ f0)).trans f0
        have i1 := (bX.cell (World.block_lt_of_cell? _ _ f1)).trans f1
        have i2 := (bX.cell (World.block_lt_of_cell? _ _ f2)).trans f2
        clear bX f0 f1 f2
        go_wp2_with fail
        have bA := ((Below.refl wr.heap.size wr).alloc (Nat.le_refl _) (.cells #[.bool (L0[k]'hlt0).neg, .slice a1 (L0[k]'hlt0).mag.length r1, .slice a2 (L0[k]'hlt0).den.length r2] 42)).alloc (by simp) (.cells #[.bool (L1[k]'hlt1).neg, .slice a3 (L1[k]'hlt1).mag.length r3, .slice a4 (L1[k]'hlt1).den.length r4] 42)
        have B9 := Lib.hid (HBk.out.trans (bA.mono HBk.out.size))
        refine (HEQ (L0[k]'hlt0) (L1[k]'hlt1) _ _ _ _ _ (RR.out.below bA) (SS.out.below bA)).mono ?_
        rw [hq]
        rintro e w_r ⟨rfl, bb_r⟩
        have BB := Lib.hid (B9.out.trans (bb_r.mono B9.out.size))
        clear bb_r bA HBk
        go_wp2_with fail
        exact ⟨⟨k + 1, by omega, by go_num, Lib.hid (by rw [zw_take hlt0 hlt1, List.all_append, HA.out]; simp [hq]), BB⟩, by simp [intOf]; omega⟩
      | false =>
        have bX := (Below.refl wr.heap.size wr).alloc (Nat.le_refl _) (.cells #[.bool (L0[k]'hlt0).neg, .slice a1 (L0[k]'hlt0).mag.length r1, .slice a2 (L0[k]'hlt0).den.length r2] 42)
        have i0 := (bX.cell (World.block_lt_of_cell? _ _ f0)).trans f0
        have i1 := (bX.cell (World.block_lt_of_cell? _ _ f1)).trans f1
        have i2 := (bX.cell (World.block_lt_of_cell? _ _ f2)).trans f2
        clear bX f0 f1 f2
        go_wp2_with fail
        have bA := ((Below.refl wr.heap.size wr).alloc (Nat.le_refl _) (.cells #[.bool (L0[k]'hlt0).neg, .slice a1 (L0[k]'hlt0).mag.length r1, .slice a2 (L0[k]'hlt0).den.length r2] 42)).alloc (by simp) (.cells #[.bool (L1[k]'hlt1).neg, .slice a3 (L1[k]'hlt1).mag.length r3, .slice a4 (L1[k]'hlt1).den.length r4] 42)
        have B9 := Lib.hid (HBk.out.trans (bA.mono HBk.out.size))
        refine (HEQ (L0[k]'hlt0) (L1[k]'hlt1) _ _ _ _ _ (RR.out.below bA) (SS.out.below bA)).mono ?_
        rw [hq]
        rintro e w_r ⟨rfl, bb_r⟩
        have BB := Lib.hid (B9.out.trans (bb_r.mono B9.out.size))
        clear bb_r bA HBk
        (go_wp2_with fail; go_ret; exact ⟨by rw [HR.out, eqV_no hlt0 hlt1 hq]; rfl, BB.out⟩)
    · obtain rfl : k = n := by omega
      have hT0 : L0.take k = L0 := by rw [← HN.out, List.take_length]
      have hT1 : L1.take k = L1 := by rw [← HN.out, HN1.out, List.take_length]
      rw [hT0, hT1] at HA
      go_wp2
      go_ret
      exact ⟨by rw [HR.out, eqV, HA.out, decide_eq_true HN1.out]; rfl, HBk.out⟩

theorem impl_equalV (q : Fr → Fr → Bool)
    (HEQ : ∀ (f g : Fr) v d v' d' w, RowR w v f.mag d f.den → RowR w v' g.mag d' g.den → Calls Try.prog 21 #[.agg #[.bool f.neg, v, d], .agg #[.bool g.neg, v', d']] w fun r w' => r = .returned (.bool (q f g)) ∧ Below w.heap.size w w')
    (v0 : Value) (L0 : List Fr) (v1 : Value) (L1 : List Fr) (w : World) (h0 : RatsAt w v0 L0) (h1 : RatsAt w v1 L1) :
    Calls Try.prog 17 #[v0, v1] w fun e w' => e = .returned (.bool (eqV q L0 L1)) ∧ Below w.heap.size w w' := by
  have T := impl_eqV q HEQ v0 L0 v1 L1 w h0 h1
  obtain ⟨a, cap, rfl, hc, hm, hr⟩ := h0
  obtain ⟨a', cap', rfl, hc', hm', hr'⟩ := h1
  clear hr hr'
  go_enter Try.func17, Try.ntmps17
  go_wp2_with fail
  refine T.mono ?_
  rintro e w1 ⟨rfl, b1⟩
  go_wp2
  go_ret
  exact ⟨rfl, b1⟩

end Go.Proofs.Ytojklmckjebplaa
