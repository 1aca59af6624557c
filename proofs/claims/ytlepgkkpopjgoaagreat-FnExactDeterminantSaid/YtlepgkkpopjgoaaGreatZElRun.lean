/- eliminate and Reduce of the program. -/
import Derived.Test.YtlepgkkpopjgoaaGreatZElElim
import Derived.Test.YtlepgkkpopjgoaaGreatZElUse
import Derived.Test.YtlepgkkpopjgoaaGreatZElSpec
import Derived.Test.YtlepgkkpopjgoaaGreatZMatIok
import Derived.Test.YtlepgkkpopjgoaaGreatZVecOk
namespace Go.Proofs.YtlepgkkpopjgoaaGreat
open Go.RowKit Go.WideShapes Go.ChangeShapes
set_option linter.unusedVariables false
set_option linter.unusedSimpArgs false
theorem impl_elim (R C n cap : Nat) (a : Option Addr) (L : List Fr) (w : World) (h : RatsAt w (.slice a n cap) L) (hL : L.length = n) (hN : n = R * C) (hR : R ≤ 24) (hC : C ≤ 24) (hok : ∀ k (hk : k < L.length), ratOk (L[k]'hk).neg (L[k]'hk).mag (L[k]'hk).den = true) :
    Calls Tryz.prog 58 #[.agg #[.int .i64 (R : Int), .int .i64 (C : Int), .slice a n cap]] w fun r w' => ∃ p, r = .returned (.tuple #[.pointer (some ⟨p, 0, none⟩), .bool (fineG R C (runE R C C (startE L C)).g)]) ∧ (fineG R C (runE R C C (startE L C)).g = true → ∃ g pv fv xs ps, PrS w' w.heap.size p (some ⟨g, 0, none⟩) n n R C (runE R C C (startE L C)) pv fv xs ps) ∧ Below w.heap.size w w' :=
  impl_eliminateH (fun p q N cap B R C i k e pv fv xs ps w h EO hN hR hC hi hn hk hp hB => impl_use p q N cap B R C i k e pv fv xs ps w h EO hN hR hC hi hn hk hp hB) R C n cap a L w h hL hN hR hC hok (all_okF hok)
set_option maxRecDepth 100000 in
set_option maxHeartbeats 2000000 in
theorem impl_reduceM (r c : Int) (v : Value) (L : List Fr) (w : World) (h : RatsAt w v L) :
    Calls Tryz.prog 25 #[.agg #[.int .i64 r, .int .i64 c, v]] w fun e w' => ∃ u xs pv, e = .returned (.tuple #[.agg #[.int .i64 (rdR r c L), .int .i64 (rdC r c L), u], pv, .bool (rdB r c L)]) ∧ OwnV w' w.heap.size u (rdL r c L) xs ∧ OwnI w' w.heap.size pv (rdP r c L) ∧ (∀ k, OnV u xs k → pv.ownBlock ≠ some k) ∧ Below w.heap.size w w' := by
  obtain ⟨a, cap, rfl, hc, hm, hr⟩ := h
  have HR := Lib.hid (show RatsAt w (.slice a L.length cap) L from ⟨a, cap, rfl, hc, hm, hr⟩)
  unfold maxLen at hm
  clear hr
  obtain ⟨n, hnn⟩ : ∃ n, L.length = n := ⟨_, rfl⟩
  rw [hnn] at hc HR ⊢
  have HN := Lib.hid hnn
  clear hnn
  cases q0 : matB ratOk r c L with
  | false =>
    have e0 : rdB r c L = false := by unfold rdB; rw [q0]; rfl
    rw [(rd_no e0).1, (rd_no e0).2.1, (rd_no e0).2.2.1, (rd_no e0).2.2.2, e0]
    clear e0
    go_enter Tryz.func25, Tryz.ntmps25
    go_wp2_with fail
    obtain ⟨W0, hW0⟩ : ∃ x, x = (w.alloc (.cells #[.int .i64 r, .int .i64 c, .slice a n cap] 25)).alloc (.cells #[.int .i64 0, .int .i64 0, .slice none 0 0] 25) := ⟨_, rfl⟩
    have D := Lib.hid (show B3 W0 w.heap.size 25 (.int .i64 r) (.int .i64 c) (.slice a n cap) by rw [hW0]; exact (B3.new _ _ _ _ _).alloc _)
    have Z := Lib.hid (show B3 W0 (w.heap.size + 1) 25 (.int .i64 0) (.int .i64 0) (.slice none 0 0) by rw [hW0]; exact b3_at (B3.new _ _ _ _ _) (by simp))
    have B0 := Lib.hid (show Below w.heap.size w W0 by rw [hW0]; exact ((Below.refl _ _).alloc (Nat.le_refl _) _).alloc (by simp) _)
    rw [← hW0]
    clear hW0
    try (have d0 := D.out.c0; have d1 := D.out.c1; have d2 := D.out.c2; go_wp2_with fail)
    have T := impl_matrixOkH ratOk (fun v L w h => impl_isV v L w h) r c _ L W0 (HR.out.below B0.out)
    rw [q0] at T
    refine T.mono ?_
    rintro e w1 ⟨rfl, b1⟩
    replace Z := Lib.hid (Z.out.below b1)
    replace B0 := Lib.hid (B0.out.trans (b1.mono B0.out.size))
    clear b1 T
    have z0 := Z.out.c0
    have z1 := Z.out.c1
    have z2 := Z.out.c2
    have x0 := Z.out.f 0
    have x1 := Z.out.f 1
    have x2 := Z.out.f 2
    have V9 := Lib.hid (OwnV.set3_b3 (OwnV.nil _ w.heap.size) Z.out (by decide) (by decide) (.int .i64 0) (.int .i64 0) (.slice none 0 0))
    have B9 := Lib.hid (((B0.out.setCell (p := ⟨w.heap.size + 1, 0, none⟩) (by simp) (.int .i64 0)).setCell (p := ⟨w.heap.size + 1, 1, none⟩) (by simp) (.int .i64 0)).setCell (p := ⟨w.heap.size + 1, 2, none⟩) (by simp) (.slice none 0 0))
    have D8 := Z.out.set3 (.int .i64 0) (.int .i64 0) (.slice none 0 0)
    have hc0 := D8.c0; have hc1 := D8.c1; have hc2 := D8.c2
    clear D8
    go_wp2_with fail
    exact bodyPost_ret (v := .tuple #[.agg #[.int .i64 0, .int .i64 0, .slice none 0 0], .slice none 0 0, .bool false]) (by simp [results, Tryz.results25, go_sem, hc0, hc1, hc2]) rfl ⟨_, _, _, rfl, V9.out, OwnI.nil _ _, fun k _ => by simp [Value.ownBlock], B9.out⟩
  | true =>
  obtain ⟨R, C, rfl, rfl, hR, hC, hLn, hRC, hE⟩ := matB_parts q0
  rw [HN.out] at hLn
  obtain ⟨E, hE0⟩ : ∃ E, E = runE R C C (startE L C) := ⟨_, rfl⟩
  have HRE := Lib.hid (show rdE R C L = E by rw [hE0]; rfl)
  have HRB := Lib.hid (show rdB R C L = fineG R C E.g by unfold rdB; rw [q0, HRE.out]; rfl)
  have HEX := Lib.hid (fun W (hW : Below w.heap.size w W) => impl_elim R C n cap a L W (HR.out.below hW) HN.out hLn hR hC hE)
  rw [← hE0] at HEX
  clear hLn hRC hE hE0
  go_enter Tryz.func25, Tryz.ntmps25
  go_wp2_with fail
  obtain ⟨W0, hW0⟩ : ∃ x, x = (w.alloc (.cells #[.int .i64 (R : Int), .int .i64 (C : Int), .slice a n cap] 25)).alloc (.cells #[.int .i64 0, .int .i64 0, .slice none 0 0] 25) := ⟨_, rfl⟩
  have D := Lib.hid (show B3 W0 w.heap.size 25 (.int .i64 (R : Int)) (.int .i64 (C : Int)) (.slice a n cap) by rw [hW0]; exact (B3.new _ _ _ _ _).alloc _)
  have Z := Lib.hid (show B3 W0 (w.heap.size + 1) 25 (.int .i64 0) (.int .i64 0) (.slice none 0 0) by rw [hW0]; exact b3_at (B3.new _ _ _ _ _) (by simp))
  have B0 := Lib.hid (show Below w.heap.size w W0 by rw [hW0]; exact ((Below.refl _ _).alloc (Nat.le_refl _) _).alloc (by simp) _)
  rw [← hW0]
  clear hW0
  try (have d0 := D.out.c0; have d1 := D.out.c1; have d2 := D.out.c2; go_wp2_with fail)
  have T := impl_matrixOkH ratOk (fun v L w h => impl_isV v L w h) R C _ L W0 (HR.out.below B0.out)
  rw [q0] at T
  refine T.mono ?_
  rintro e w1 ⟨rfl, b1⟩
  replace D := Lib.hid (D.out.below b1)
  replace Z := Lib.hid (Z.out.below b1)
  replace B0 := Lib.hid (B0.out.trans (b1.mono B0.out.size))
  clear b1 T
  try clear d0 d1 d2
  have d0 := D.out.c0
  have d1 := D.out.c1
  have d2 := D.out.c2
  have HX := Lib.hid (HEX.out w1 B0.out)
  clear HEX
  cases hq : fineG R C E.g with
  | true =>
    rw [hq] at HX
    have HB := Lib.hid (show rdB R C L = true by rw [HRB.out]; exact hq)
    go_wp2_with fail
    refine (HX.out).mono ?_
    rintro e w4 ⟨p, rfl, hp, b4⟩
    obtain ⟨g, pv, fv, xs, ps, hP⟩ := hp (by trivial)
    have P4 := Lib.hid hP
    have Z4 := Lib.hid (Z.out.below b4)
    have B4 := Lib.hid (B0.out.trans (b4.mono B0.out.size))
    have hpz : p ≠ w.heap.size + 1 := by have h1 := hP.hB; have h2 := Z.out.lt; omega
    have hw1 : w.heap.size ≤ w1.heap.size := B0.out.size
    clear hP hp b4 HX Z D d0 d1 d2
    have d0 := P4.out.D.c0
    have d1 := P4.out.D.c1
    have d2 := P4.out.D.c2
    have d3 := P4.out.D.c3
    have z0 := Z4.out.c0
    have z1 := Z4.out.c1
    have z2 := Z4.out.c2
    have x0 := Z4.out.f 0
    have x1 := Z4.out.f 1
    have x2 := Z4.out.f 2
    have HS := Lib.hid (show ∀ W : World, Below w4.heap.size w4 W → (W.cell? ⟨p, 0, none⟩ = some (.int .i64 (R : Int)) ∧ W.cell? ⟨p, 1, none⟩ = some (.int .i64 (C : Int)) ∧ W.cell? ⟨p, 2, none⟩ = some (.slice (some ⟨g, 0, none⟩) n n) ∧ W.cell? ⟨p, 3, none⟩ = some pv) from fun W hW => ⟨(P4.out.D.below hW).c0, (P4.out.D.below hW).c1, (P4.out.D.below hW).c2, (P4.out.D.below hW).c3⟩)
    go_wp2_with fail
    go_region_held3 (fun w' => w'.cell? ⟨p, 0, none⟩ = some (.int .i64 (R : Int)) ∧ w'.cell? ⟨p, 1, none⟩ = some (.int .i64 (C : Int)) ∧ w'.cell? ⟨p, 2, none⟩ = some (.slice (some ⟨g, 0, none⟩) n n) ∧ w'.cell? ⟨p, 3, none⟩ = some pv)
      (first | exact HS.out _ (by first | with_reducible exact Below.refl _ _ | with_reducible exact (Below.refl _ _).drew | fail) | exact ⟨(cell_far3 hpz _ _ _).trans (HS.out _ (by first | with_reducible exact Below.refl _ _ | with_reducible exact (Below.refl _ _).drew | fail)).1, (cell_far3 hpz _ _ _).trans (HS.out _ (by first | with_reducible exact Below.refl _ _ | with_reducible exact (Below.refl _ _).drew | fail)).2.1, (cell_far3 hpz _ _ _).trans (HS.out _ (by first | with_reducible exact Below.refl _ _ | with_reducible exact (Below.refl _ _).drew | fail)).2.2.1, (cell_far3 hpz _ _ _).trans (HS.out _ (by first | with_reducible exact Below.refl _ _ | with_reducible exact (Below.refl _ _).drew | fail)).2.2.2⟩)
      (first | fail | fail)
    all_goals (have V9 := Lib.hid (OwnV.set3_b3 P4.out.S.V Z4.out (by decide) (by decide) (.int .i64 (R : Int)) (.int .i64 (C : Int)) (.slice (some ⟨g, 0, none⟩) n n)).drew)
    all_goals (have P9 := Lib.hid (OwnI.set3_b3 P4.out.S.P Z4.out (by decide) (.int .i64 (R : Int)) (.int .i64 (C : Int)) (.slice (some ⟨g, 0, none⟩) n n)))
    all_goals (have B9 := Lib.hid (((B4.out.setCell (p := ⟨w.heap.size + 1, 0, none⟩) (by simp) (.int .i64 (R : Int))).setCell (p := ⟨w.heap.size + 1, 1, none⟩) (by simp) (.int .i64 (C : Int))).setCell (p := ⟨w.heap.size + 1, 2, none⟩) (by simp) (.slice (some ⟨g, 0, none⟩) n n)).drew)
    all_goals (have D8 := (Z4.out.set3 (.int .i64 (R : Int)) (.int .i64 (C : Int)) (.slice (some ⟨g, 0, none⟩) n n)).drew)
    all_goals (have hc0 := D8.c0; have hc1 := D8.c1; have hc2 := D8.c2)
    all_goals (have DJ := Lib.hid P4.out.S.vp)
    all_goals clear D8 P4 Z4 HS
    all_goals go_wp2_with fail
    all_goals obtain ⟨e1, e2, e3, e4⟩ := rd_yes HB.out
    all_goals rw [Int.toNat_natCast, Int.toNat_natCast, HRE.out] at e1
    all_goals rw [HRE.out] at e4
    all_goals exact bodyPost_ret (v := .tuple #[.agg #[.int .i64 (R : Int), .int .i64 (C : Int), .slice (some ⟨g, 0, none⟩) n n], pv, .bool true]) (by simp [results, Tryz.results25, go_sem, hc0, hc1, hc2]) rfl (by rw [e1, e2, e3, e4, HB.out]; exact ⟨_, _, _, rfl, V9.out.base hw1, (show OwnI _ _ _ _ from P9.out).base hw1, DJ.out, B9.out⟩)
  | false =>
    rw [hq] at HX
    have HB := Lib.hid (show rdB R C L = false by rw [HRB.out]; exact hq)
    go_wp2_with fail
    refine (HX.out).mono ?_
    rintro e w5 ⟨p, rfl, hp, b5⟩
    have Z5 := Lib.hid (Z.out.below b5)
    have B5' := Lib.hid (B0.out.trans (b5.mono B0.out.size))
    clear b5 HX hp Z D B0 d0 d1 d2
    have z0 := Z5.out.c0
    have z1 := Z5.out.c1
    have z2 := Z5.out.c2
    have x0 := Z5.out.f 0
    have x1 := Z5.out.f 1
    have x2 := Z5.out.f 2
    have V9 := Lib.hid (OwnV.set3_b3 (OwnV.nil _ w.heap.size) Z5.out (by decide) (by decide) (.int .i64 0) (.int .i64 0) (.slice none 0 0))
    have B9 := Lib.hid (((B5'.out.setCell (p := ⟨w.heap.size + 1, 0, none⟩) (by simp) (.int .i64 0)).setCell (p := ⟨w.heap.size + 1, 1, none⟩) (by simp) (.int .i64 0)).setCell (p := ⟨w.heap.size + 1, 2, none⟩) (by simp) (.slice none 0 0))
    have D8 := Z5.out.set3 (.int .i64 0) (.int .i64 0) (.slice none 0 0)
    have hc0 := D8.c0; have hc1 := D8.c1; have hc2 := D8.c2
    clear D8
    go_wp2_with fail
    obtain ⟨e1, e2, e3, e4⟩ := rd_no HB.out
    exact bodyPost_ret (v := .tuple #[.agg #[.int .i64 0, .int .i64 0, .slice none 0 0], .slice none 0 0, .bool false]) (by simp [results, Tryz.results25, go_sem, hc0, hc1, hc2]) rfl (by rw [e1, e2, e3, e4, HB.out]; exact ⟨_, _, _, rfl, V9.out, OwnI.nil _ _, fun k _ => by simp [Value.ownBlock], B9.out⟩)

end Go.Proofs.YtlepgkkpopjgoaaGreat
