/- l06Copy, Reduce and RankOf of the model. -/
import Derived.Test.YtlepgkkpopjgoaaGreatZElRed
import Derived.Test.YtlepgkkpopjgoaaGreatZMatLens
import Derived.Test.YtlepgkkpopjgoaaGreatZMatx
import Derived.Test.YtlepgkkpopjgoaaGreatZVecZero
namespace Go.Proofs.YtlepgkkpopjgoaaGreat
open Go.RowKit Go.WideShapes Go.ChangeShapes
set_option linter.unusedVariables false
set_option linter.unusedSimpArgs false

theorem OwnI.set_b3 {w : World} {B p : Nat} {v : Value} {l : List Int} {t : TypeId} {x y z : Value} (h : OwnI w B v l) (D : B3 w p t x y z) (h2 : t ≠ 3) (j : Nat) (u : Value) : OwnI (w.setCell ⟨p, j, none⟩ u) B v l :=
  h.kept (kept_set w p j u) (fun k hk e => by
    subst e
    rcases h.2 with ⟨rfl, _⟩ | ⟨g1, cap1, cur1, rfl, _, hg1, _⟩
    · simp [Value.ownBlock] at hk
    · have e1 : g1 = k := by simpa [Value.ownBlock] using hk
      subst e1
      have D' : w.heap[g1]? = some (.cells #[x, y, z] t (0, 0)) := D
      rw [hg1] at D'
      injection D' with D'
      injection D' with _ h3 _
      exact h2 h3.symm)
theorem OwnI.set3_b3 {w : World} {B p : Nat} {v : Value} {l : List Int} {t : TypeId} {x y z : Value} (h : OwnI w B v l) (D : B3 w p t x y z) (h2 : t ≠ 3) (a b c : Value) :
    OwnI (((w.setCell ⟨p, 0, none⟩ a).setCell ⟨p, 1, none⟩ b).setCell ⟨p, 2, none⟩ c) B v l :=
  ((h.set_b3 D h2 0 a).set_b3 (D.set0 a) h2 1 b).set_b3 ((D.set0 a).set1 b) h2 2 c
/-- what a matrix of valid numbers is reduced to -/
def rdE (r c : Int) (L : List Fr) : El := runE r.toNat c.toNat c.toNat (startE L c.toNat)
def rdB (r c : Int) (L : List Fr) : Bool := matB ratOk r c L && fineG r.toNat c.toNat (rdE r c L).g
def rdL (r c : Int) (L : List Fr) : List Fr := if rdB r c L then tabM r.toNat c.toNat (rdE r c L).g else []
def rdR (r c : Int) (L : List Fr) : Int := if rdB r c L then r else 0
def rdC (r c : Int) (L : List Fr) : Int := if rdB r c L then c else 0
def rdP (r c : Int) (L : List Fr) : List Int := if rdB r c L then natV (rdE r c L).piv else []
theorem rd_no {r c : Int} {L : List Fr} (h : rdB r c L = false) : rdL r c L = [] ∧ rdR r c L = 0 ∧ rdC r c L = 0 ∧ rdP r c L = [] := by unfold rdL rdR rdC rdP; rw [h]; exact ⟨rfl, rfl, rfl, rfl⟩
theorem rd_yes {r c : Int} {L : List Fr} (h : rdB r c L = true) : rdL r c L = tabM r.toNat c.toNat (rdE r c L).g ∧ rdR r c L = r ∧ rdC r c L = c ∧ rdP r c L = natV (rdE r c L).piv := by unfold rdL rdR rdC rdP; rw [h]; exact ⟨rfl, rfl, rfl, rfl⟩
theorem all_okF {L : List Fr} (h : ∀ k (hk : k < L.length), ratOk (L[k]'hk).neg (L[k]'hk).mag (L[k]'hk).den = true) : L.all okF = true := by
  rw [List.all_eq_true]
  intro f hf
  obtain ⟨i, hi, rfl⟩ := List.getElem_of_mem hf
  exact h i hi
theorem runE_start_ok {R C : Nat} {L : List Fr} (hL : L.length = R * C) (h : L.all okF = true) : GoodM R C (runE R C C (startE L C)).g ∧ (fineG R C (runE R C C (startE L C)).g = true → ElOk R C (runE R C C (startE L C)) C) :=
  runE_ok C _ (Nat.le_refl _) (by rw [Nat.sub_self]; exact start_ok hL h)
set_option maxRecDepth 100000 in
set_option maxHeartbeats 1000000 in
theorem spec_copyM (R C n cap : Nat) (a : Option Addr) (L : List Fr) (w : World) (h : RatsAt w (.slice a n cap) L) (hn : L.length ≤ 576) (hE : ∀ k (hk : k < L.length), ratOk (L[k]'hk).neg (L[k]'hk).mag (L[k]'hk).den = true) :
    Calls Tryz.prog 78 #[.agg #[.int .i64 (R : Int), .int .i64 (C : Int), .slice a n cap]] w fun e w' => ∃ c' a' xs, e = .returned (.agg #[.int .i64 (R : Int), .int .i64 (C : Int), .slice a' L.length c']) ∧ OwnV w' w.heap.size (.slice a' L.length c') L xs ∧ Below w.heap.size w w' := by
  have HR := Lib.hid h
  have HC := Lib.hid (fun W (hW : Below w.heap.size w W) => (spec_vecCopy (fun f => ratOk f.neg f.mag f.den = true) (fun f hf v d w h0 => spec_copyF f hf v d w h0) _ L W (HR.out.below hW) (by omega) hE).mono (R' := fun e w' => ∃ c' a' xs, e = .returned (.slice a' L.length c') ∧ OwnV w' w.heap.size (.slice a' L.length c') L xs ∧ Below w.heap.size w w') (fun e w' ⟨u, xs, he, ho, hb⟩ => by
    obtain ⟨a', c', rfl⟩ := ho.slice
    exact ⟨c', a', xs, he, ho.base hW.size, hW.trans (hb.mono hW.size)⟩))
  have HL9 := Lib.hid hn
  have HE := Lib.hid hE
  obtain ⟨ln, hln⟩ : ∃ l, L.length = l := ⟨_, rfl⟩
  have HLN := Lib.hid hln
  rw [hln] at HC ⊢
  clear h hn hE hln

  go_enter Tryz.func78, Tryz.ntmps78
  go_wp2_with fail
  obtain ⟨W0, hW0⟩ : ∃ x, x = (w.alloc (.cells #[.int .i64 (R : Int), .int .i64 (C : Int), .slice a n cap] 25)).alloc (.cells #[.int .i64 0, .int .i64 0, .slice none 0 0] 25) := ⟨_, rfl⟩
  have D := Lib.hid (show B3 W0 w.heap.size 25 (.int .i64 (R : Int)) (.int .i64 (C : Int)) (.slice a n cap) by rw [hW0]; exact (B3.new _ _ _ _ _).alloc _)
  have Z := Lib.hid (show B3 W0 (w.heap.size + 1) 25 (.int .i64 0) (.int .i64 0) (.slice none 0 0) by rw [hW0]; exact b3_at (B3.new _ _ _ _ _) (by simp))
  have B0 := Lib.hid (show Below w.heap.size w W0 by rw [hW0]; exact ((Below.refl _ _).alloc (Nat.le_refl _) _).alloc (by simp) _)
  rw [← hW0]
  clear hW0
  have d0 := D.out.c0
  have d1 := D.out.c1
  have d2 := D.out.c2
  have HS := Lib.hid (show ∀ W : World, Below W0.heap.size W0 W → (W.cell? ⟨w.heap.size, 0, none⟩ = some (.int .i64 (R : Int)) ∧ W.cell? ⟨w.heap.size, 1, none⟩ = some (.int .i64 (C : Int)) ∧ W.cell? ⟨w.heap.size, 2, none⟩ = some (.slice a n cap)) from fun W hW => ⟨(D.out.below hW).c0, (D.out.below hW).c1, (D.out.below hW).c2⟩)
  have HZ := Lib.hid (fun W (hW : Below W0.heap.size W0 W) => Z.out.below hW)
  replace HC := Lib.hid (fun W (hW : Below W0.heap.size W0 W) => (spec_vecCopy (fun f => ratOk f.neg f.mag f.den = true) (fun f hf v d w h0 => spec_copyF f hf v d w h0) _ L W (HR.out.below (B0.out.trans (hW.mono B0.out.size))) (by have := HL9.out; omega) HE.out).mono (R' := fun e w' => ∃ c' a' xs, e = .returned (.slice a' ln c') ∧ OwnV w' W0.heap.size (.slice a' ln c') L xs ∧ Below W0.heap.size W0 w') (fun e w' ⟨u, xs, he, ho, hb⟩ => by
    obtain ⟨a', c', rfl⟩ := ho.slice
    rw [HLN.out] at he ho
    exact ⟨c', a', xs, he, ho.base hW.size, hW.trans (hb.mono hW.size)⟩))
  have z0 := Z.out.c0
  have z1 := Z.out.c1
  have z2 := Z.out.c2
  go_wp2_with fail
  go_region_held3 (fun w' => w'.cell? ⟨w.heap.size, 0, none⟩ = some (.int .i64 (R : Int)) ∧ w'.cell? ⟨w.heap.size, 1, none⟩ = some (.int .i64 (C : Int)) ∧ w'.cell? ⟨w.heap.size, 2, none⟩ = some (.slice a n cap))
    (first | exact HS.out _ (by first | with_reducible exact Below.refl _ _ | with_reducible exact (Below.refl _ _).drew | with_reducible exact bb_a | fail) | exact ⟨(cell_far3 (show w.heap.size ≠ w.heap.size + 1 from by omega) _ _ _).trans ((HS.out _ (by first | with_reducible exact Below.refl _ _ | with_reducible exact (Below.refl _ _).drew | with_reducible exact bb_a | fail)).1), (cell_far3 (show w.heap.size ≠ w.heap.size + 1 from by omega) _ _ _).trans ((HS.out _ (by first | with_reducible exact Below.refl _ _ | with_reducible exact (Below.refl _ _).drew | with_reducible exact bb_a | fail)).2.1), (cell_far3 (show w.heap.size ≠ w.heap.size + 1 from by omega) _ _ _).trans ((HS.out _ (by first | with_reducible exact Below.refl _ _ | with_reducible exact (Below.refl _ _).drew | with_reducible exact bb_a | fail)).2.2)⟩)
    (first
      | (go_at_call 121; refine (HC.out _ (by first | with_reducible exact Below.refl _ _ | with_reducible exact (Below.refl _ _).drew | with_reducible exact bb_a | fail)).mono ?_; rintro ee w_a ⟨c_a, a_a, x_a, rfl, o_a, bb_a⟩; have Y_a := HZ.out _ bb_a; have y0 := Y_a.c0; have y1 := Y_a.c1; have y2 := Y_a.c2; have y3 := Y_a.f 0; have y4 := Y_a.f 1; have y5 := Y_a.f 2))
  all_goals (have V9 := Lib.hid ((OwnV.set3_b3 o_a Y_a (by decide) (by decide) (.int .i64 (R : Int)) (.int .i64 (C : Int)) (.slice a_a ln c_a)).base B0.out.size))
  all_goals (have B9 := Lib.hid ((((B0.out.trans (bb_a.mono B0.out.size)).setCell (p := ⟨w.heap.size + 1, 0, none⟩) (by simp) (.int .i64 (R : Int))).setCell (p := ⟨w.heap.size + 1, 1, none⟩) (by simp) (.int .i64 (C : Int))).setCell (p := ⟨w.heap.size + 1, 2, none⟩) (by simp) (.slice a_a ln c_a)))
  all_goals (have D8 := Y_a.set3 (.int .i64 (R : Int)) (.int .i64 (C : Int)) (.slice a_a ln c_a))
  all_goals (have hc0 := D8.c0; have hc1 := D8.c1; have hc2 := D8.c2)
  all_goals clear D8
  all_goals go_wp2
  all_goals exact bodyPost_ret (v := .agg #[.int .i64 (R : Int), .int .i64 (C : Int), .slice a_a ln c_a]) (by simp [results, Tryz.results78, go_sem, hc0, hc1, hc2]) rfl ⟨_, _, _, rfl, V9.out, B9.out⟩

set_option maxRecDepth 100000 in
set_option maxHeartbeats 2000000 in
theorem spec_reduceM (r c : Int) (v : Value) (L : List Fr) (w : World) (h : RatsAt w v L) :
    Calls Tryz.prog 28 #[.agg #[.int .i64 r, .int .i64 c, v]] w fun e w' => ∃ u xs pv, e = .returned (.tuple #[.agg #[.int .i64 (rdR r c L), .int .i64 (rdC r c L), u], pv, .bool (rdB r c L)]) ∧ OwnV w' w.heap.size u (rdL r c L) xs ∧ OwnI w' w.heap.size pv (rdP r c L) ∧ (∀ k, OnV u xs k → pv.ownBlock ≠ some k) ∧ Below w.heap.size w w' := by
  obtain ⟨a, cap, rfl, hc, hm, hr⟩ := h
  have HR := Lib.hid (show RatsAt w (.slice a L.length cap) L from ⟨a, cap, rfl, hc, hm, hr⟩)
  unfold maxLen at hm
  clear hr
  obtain ⟨n, hnn⟩ : ∃ n, L.length = n := ⟨_, rfl⟩
  rw [hnn] at hc HR ⊢
  have HN := Lib.hid hnn
  clear hnn
  cases q0 : matB ratOk r c L with
  | false =>
    have e0 : rdB r c L = false := by unfold rdB; rw [q0]; rfl
    rw [(rd_no e0).1, (rd_no e0).2.1, (rd_no e0).2.2.1, (rd_no e0).2.2.2, e0]
    clear e0
    go_enter Tryz.func28, Tryz.ntmps28
    go_wp2_with fail
    obtain ⟨W0, hW0⟩ : ∃ x, x = (w.alloc (.cells #[.int .i64 r, .int .i64 c, .slice a n cap] 25)).alloc (.cells #[.int .i64 0, .int .i64 0, .slice none 0 0] 25) := ⟨_, rfl⟩
    have D := Lib.hid (show B3 W0 w.heap.size 25 (.int .i64 r) (.int .i64 c) (.slice a n cap) by rw [hW0]; exact (B3.new _ _ _ _ _).alloc _)
    have Z := Lib.hid (show B3 W0 (w.heap.size + 1) 25 (.int .i64 0) (.int .i64 0) (.slice none 0 0) by rw [hW0]; exact b3_at (B3.new _ _ _ _ _) (by simp))
    have B0 := Lib.hid (show Below w.heap.size w W0 by rw [hW0]; exact ((Below.refl _ _).alloc (Nat.le_refl _) _).alloc (by simp) _)
    rw [← hW0]
    clear hW0
    try (have d0 := D.out.c0; have d1 := D.out.c1; have d2 := D.out.c2; go_wp2_with fail)
    have T := spec_matrixOk ratOk (fun b v zs d ds w h => spec_ratOk b v zs d ds w h) r c _ L W0 (HR.out.below B0.out)
    rw [q0] at T
    refine T.mono ?_
    rintro e w1 ⟨rfl, b1⟩
    replace Z := Lib.hid (Z.out.below b1)
    replace B0 := Lib.hid (B0.out.trans (b1.mono B0.out.size))
    clear b1 T
    have z0 := Z.out.c0
    have z1 := Z.out.c1
    have z2 := Z.out.c2
    have x0 := Z.out.f 0
    have x1 := Z.out.f 1
    have x2 := Z.out.f 2
    have V9 := Lib.hid (OwnV.set3_b3 (OwnV.nil _ w.heap.size) Z.out (by decide) (by decide) (.int .i64 0) (.int .i64 0) (.slice none 0 0))
    have B9 := Lib.hid (((B0.out.setCell (p := ⟨w.heap.size + 1, 0, none⟩) (by simp) (.int .i64 0)).setCell (p := ⟨w.heap.size + 1, 1, none⟩) (by simp) (.int .i64 0)).setCell (p := ⟨w.heap.size + 1, 2, none⟩) (by simp) (.slice none 0 0))
    have D8 := Z.out.set3 (.int .i64 0) (.int .i64 0) (.slice none 0 0)
    have hc0 := D8.c0; have hc1 := D8.c1; have hc2 := D8.c2
    clear D8
    go_wp2_with fail
    exact bodyPost_ret (v := .tuple #[.agg #[.int .i64 0, .int .i64 0, .slice none 0 0], .slice none 0 0, .bool false]) (by simp [results, Tryz.results28, go_sem, hc0, hc1, hc2]) rfl ⟨_, _, _, rfl, V9.out, OwnI.nil _ _, fun k _ => by simp [Value.ownBlock], B9.out⟩
  | true =>
  obtain ⟨R, C, rfl, rfl, hR, hC, hLn, hRC, hE⟩ := matB_parts q0
  rw [HN.out] at hLn
  have HLN := Lib.hid hLn
  have HEO := Lib.hid (all_okF hE)
  have HCP := Lib.hid (fun W (hW : Below w.heap.size w W) => (spec_copyM R C n cap a L W (HR.out.below hW) (by rw [HN.out]; omega) hE).mono (R' := fun e w' => ∃ c' a' xs, e = .returned (.agg #[.int .i64 (R : Int), .int .i64 (C : Int), .slice a' n c']) ∧ OwnV w' W.heap.size (.slice a' n c') L xs ∧ Below W.heap.size W w' ∧ Below w.heap.size w w') (fun e w' ⟨c', a', xs, he, ho, hb⟩ => by
    rw [HN.out] at he ho
    exact ⟨c', a', xs, he, ho, hb, hW.trans (hb.mono hW.size)⟩))
  obtain ⟨E, hE0⟩ : ∃ E, E = runE R C C (startE L C) := ⟨_, rfl⟩
  have HRE := Lib.hid (show rdE R C L = E by rw [hE0]; rfl)
  have HRB := Lib.hid (show rdB R C L = fineG R C E.g by unfold rdB; rw [q0, HRE.out]; rfl)
  have HRX := Lib.hid (fun W (c' : Nat) (a' : Option Addr) xs (hV : OwnV W w.heap.size (.slice a' n c') L xs) (hB : w.heap.size ≤ W.heap.size) => (spec_reduceE R C n c' w.heap.size a' L xs W hV (by rw [HN.out]; exact HLN.out) HLN.out hR hC HEO.out hB))
  rw [← hE0] at HRX
  clear hLn hRC hE hE0
  go_enter Tryz.func28, Tryz.ntmps28
  go_wp2_with fail
  obtain ⟨W0, hW0⟩ : ∃ x, x = (w.alloc (.cells #[.int .i64 (R : Int), .int .i64 (C : Int), .slice a n cap] 25)).alloc (.cells #[.int .i64 0, .int .i64 0, .slice none 0 0] 25) := ⟨_, rfl⟩
  have D := Lib.hid (show B3 W0 w.heap.size 25 (.int .i64 (R : Int)) (.int .i64 (C : Int)) (.slice a n cap) by rw [hW0]; exact (B3.new _ _ _ _ _).alloc _)
  have Z := Lib.hid (show B3 W0 (w.heap.size + 1) 25 (.int .i64 0) (.int .i64 0) (.slice none 0 0) by rw [hW0]; exact b3_at (B3.new _ _ _ _ _) (by simp))
  have B0 := Lib.hid (show Below w.heap.size w W0 by rw [hW0]; exact ((Below.refl _ _).alloc (Nat.le_refl _) _).alloc (by simp) _)
  rw [← hW0]
  clear hW0
  try (have d0 := D.out.c0; have d1 := D.out.c1; have d2 := D.out.c2; go_wp2_with fail)
  have T := spec_matrixOk ratOk (fun b v zs d ds w h => spec_ratOk b v zs d ds w h) R C _ L W0 (HR.out.below B0.out)
  rw [q0] at T
  refine T.mono ?_
  rintro e w1 ⟨rfl, b1⟩
  replace D := Lib.hid (D.out.below b1)
  replace Z := Lib.hid (Z.out.below b1)
  replace B0 := Lib.hid (B0.out.trans (b1.mono B0.out.size))
  clear b1 T
  try clear d0 d1 d2
  have d0 := D.out.c0
  have d1 := D.out.c1
  have d2 := D.out.c2
  go_wp2_with fail
  refine (HCP.out _ B0.out).mono ?_
  rintro e w2 ⟨c', a', xs, rfl, o2, b2, b2'⟩
  obtain ⟨h5, hh5⟩ : ∃ x, x = w2.heap.size := ⟨_, rfl⟩
  obtain ⟨W3, hW3⟩ : ∃ x, x = w2.alloc (.cells #[.int .i64 (R : Int), .int .i64 (C : Int), .slice a' n c'] 25) := ⟨_, rfl⟩
  have b3 := (show Below w2.heap.size w2 W3 by rw [hW3]; exact (Below.refl _ _).alloc (Nat.le_refl _) _)
  have M3 := Lib.hid (show B3 W3 h5 25 (.int .i64 (R : Int)) (.int .i64 (C : Int)) (.slice a' n c') by rw [hW3, hh5]; exact B3.new _ _ _ _ _)
  replace Z := Lib.hid ((Z.out.below b2).below b3)
  have V3 := Lib.hid ((o2.below b3).base B0.out.size)
  have hw0 := B0.out.size
  have B3' := Lib.hid ((B0.out.trans (b2.mono hw0)).trans (b3.mono (Nat.le_trans hw0 b2.size)))
  have HW3 := Lib.hid hW3.symm
  have HH5 := Lib.hid hh5.symm
  have m0 := M3.out.c0
  have m1 := M3.out.c1
  have m2 := M3.out.c2
  clear hW3 hh5 b3 b2 o2 d0 d1 d2 B0
  go_wp2_with (rw [HW3.out, HH5.out])
  refine (HRX.out W3 c' a' xs V3.out B3'.out.size).mono ?_
  rintro e w4 ⟨pv, fv, ys, ps, rfl, hS, b4, km⟩
  have S4 := Lib.hid hS
  have M4 := Lib.hid (km _ _ _ _ M3.out)
  have Z4 := Lib.hid (km _ _ _ _ Z.out)
  have B4 := Lib.hid (B3'.out.trans b4)
  have HFN := Lib.hid (spec_fine (.slice a' n c') (tabM R C E.g) w4 hS.V.rats)
  clear hS b4 km M3 Z V3 B3' HRX HCP HW3 HH5 m0 m1 m2
  have m0 := M4.out.c0
  have m1 := M4.out.c1
  have m2 := M4.out.c2
  have z0 := Z4.out.c0
  have z1 := Z4.out.c1
  have z2 := Z4.out.c2
  have x0 := Z4.out.f 0
  have x1 := Z4.out.f 1
  have x2 := Z4.out.f 2
  cases hq : fineG R C E.g with
  | true =>
    have hq' : fineV (tabM R C E.g) = true := hq
    rw [hq'] at HFN
    have HB := Lib.hid (show rdB R C L = true by rw [HRB.out]; exact hq)
    go_wp2_with fail
    refine (HFN.out).mono ?_
    rintro e w5 ⟨rfl, b5⟩
    have S5 := Lib.hid (S4.out.below b5)
    have M5 := Lib.hid (M4.out.below b5)
    have Z5 := Lib.hid (Z4.out.below b5)
    have B5' := Lib.hid (B4.out.trans (b5.mono B4.out.size))
    clear b5 HFN S4 M4 Z4 B4 m0 m1 m2 z0 z1 z2 x0 x1 x2
    have m0 := M5.out.c0
    have m1 := M5.out.c1
    have m2 := M5.out.c2
    have z0 := Z5.out.c0
    have z1 := Z5.out.c1
    have z2 := Z5.out.c2
    have x0 := Z5.out.f 0
    have x1 := Z5.out.f 1
    have x2 := Z5.out.f 2
    have V9 := Lib.hid (OwnV.set3_b3 S5.out.V Z5.out (by decide) (by decide) (.int .i64 (R : Int)) (.int .i64 (C : Int)) (.slice a' n c'))
    have P9 := Lib.hid (OwnI.set3_b3 S5.out.P Z5.out (by decide) (.int .i64 (R : Int)) (.int .i64 (C : Int)) (.slice a' n c'))
    have B9 := Lib.hid (((B5'.out.setCell (p := ⟨w.heap.size + 1, 0, none⟩) (by simp) (.int .i64 (R : Int))).setCell (p := ⟨w.heap.size + 1, 1, none⟩) (by simp) (.int .i64 (C : Int))).setCell (p := ⟨w.heap.size + 1, 2, none⟩) (by simp) (.slice a' n c'))
    have D8 := Z5.out.set3 (.int .i64 (R : Int)) (.int .i64 (C : Int)) (.slice a' n c')
    have hc0 := D8.c0; have hc1 := D8.c1; have hc2 := D8.c2
    have DJ := Lib.hid S5.out.vp
    clear D8 S5 Z5 M5
    go_wp2_with fail
    obtain ⟨e1, e2, e3, e4⟩ := rd_yes HB.out
    rw [Int.toNat_natCast, Int.toNat_natCast, HRE.out] at e1
    rw [HRE.out] at e4
    exact bodyPost_ret (v := .tuple #[.agg #[.int .i64 (R : Int), .int .i64 (C : Int), .slice a' n c'], pv, .bool true]) (by simp [results, Tryz.results28, go_sem, hc0, hc1, hc2]) rfl (by rw [e1, e2, e3, e4, HB.out]; exact ⟨_, _, _, rfl, V9.out, P9.out, DJ.out, B9.out⟩)
  | false =>
    have hq' : fineV (tabM R C E.g) = false := hq
    rw [hq'] at HFN
    have HB := Lib.hid (show rdB R C L = false by rw [HRB.out]; exact hq)
    go_wp2_with fail
    refine (HFN.out).mono ?_
    rintro e w5 ⟨rfl, b5⟩
    have Z5 := Lib.hid (Z4.out.below b5)
    have B5' := Lib.hid (B4.out.trans (b5.mono B4.out.size))
    clear b5 HFN S4 M4 Z4 B4 m0 m1 m2 z0 z1 z2 x0 x1 x2
    have z0 := Z5.out.c0
    have z1 := Z5.out.c1
    have z2 := Z5.out.c2
    have x0 := Z5.out.f 0
    have x1 := Z5.out.f 1
    have x2 := Z5.out.f 2
    have V9 := Lib.hid (OwnV.set3_b3 (OwnV.nil _ w.heap.size) Z5.out (by decide) (by decide) (.int .i64 0) (.int .i64 0) (.slice none 0 0))
    have B9 := Lib.hid (((B5'.out.setCell (p := ⟨w.heap.size + 1, 0, none⟩) (by simp) (.int .i64 0)).setCell (p := ⟨w.heap.size + 1, 1, none⟩) (by simp) (.int .i64 0)).setCell (p := ⟨w.heap.size + 1, 2, none⟩) (by simp) (.slice none 0 0))
    have D8 := Z5.out.set3 (.int .i64 0) (.int .i64 0) (.slice none 0 0)
    have hc0 := D8.c0; have hc1 := D8.c1; have hc2 := D8.c2
    clear D8
    go_wp2_with fail
    obtain ⟨e1, e2, e3, e4⟩ := rd_no HB.out
    exact bodyPost_ret (v := .tuple #[.agg #[.int .i64 0, .int .i64 0, .slice none 0 0], .slice none 0 0, .bool false]) (by simp [results, Tryz.results28, go_sem, hc0, hc1, hc2]) rfl (by rw [e1, e2, e3, e4, HB.out]; exact ⟨_, _, _, rfl, V9.out, OwnI.nil _ _, fun k _ => by simp [Value.ownBlock], B9.out⟩)

end Go.Proofs.YtlepgkkpopjgoaaGreat
