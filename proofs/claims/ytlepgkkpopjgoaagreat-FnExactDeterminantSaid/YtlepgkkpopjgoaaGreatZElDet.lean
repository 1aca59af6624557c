/- Determinant of both sides. -/
import Derived.Test.YtlepgkkpopjgoaaGreatZElRun
import Derived.Test.YtlepgkkpopjgoaaGreatZElTot
namespace Go.Proofs.YtlepgkkpopjgoaaGreat
open Go.RowKit Go.WideShapes Go.ChangeShapes
set_option linter.unusedVariables false
set_option linter.unusedSimpArgs false
def dtOk (r c : Int) (L : List Fr) : Bool := decide (r = c) && rdB r c L
def dtP (r c : Int) (L : List Fr) : Fr := prodX oF (rdE r c L).fac
def dtFew (r c : Int) (L : List Fr) : Bool := decide ((rdE r c L).piv.length < r.toNat)
def dtF (r c : Int) (L : List Fr) : Fr := if dtOk r c L then (if dtFew r c L then zF else dtP r c L) else Fr.zero
def dtB (r c : Int) (L : List Fr) : Bool := dtOk r c L && (dtFew r c L || !(decide ((dtP r c L).den.length = 0)))
theorem dt_no {r c : Int} {L : List Fr} (h : dtOk r c L = false) : dtF r c L = Fr.zero ∧ dtB r c L = false := by unfold dtF dtB; rw [h]; exact ⟨rfl, rfl⟩
theorem dt_few {r c : Int} {L : List Fr} (h : dtOk r c L = true) (h2 : dtFew r c L = true) : dtF r c L = zF ∧ dtB r c L = true := by unfold dtF dtB; rw [h, h2]; exact ⟨rfl, rfl⟩
theorem dt_full {r c : Int} {L : List Fr} (h : dtOk r c L = true) (h2 : dtFew r c L = false) : dtF r c L = dtP r c L ∧ dtB r c L = !(decide ((dtP r c L).den.length = 0)) := by unfold dtF dtB; rw [h, h2]; exact ⟨rfl, rfl⟩
theorem ok_one : okF oF = true := by
  show ratOk false [1] [1] = true
  rw [← limI_1, ratOk_make (Nat.lt_of_lt_of_le (by decide : 1 < pw 1) (pw_mono (by omega))) (Nat.lt_of_lt_of_le (by decide : 1 < pw 1) (pw_mono (by omega))) (by omega) (by intro h; cases h)]
  exact decide_eq_true (by simp)
theorem B3.lows {w w' : World} {p n : Nat} {t : TypeId} {x y z : Value} (h : B3 w p t x y z) (hb : Below n w w') (hp : p < n) : B3 w' p t x y z := (hb.block p hp).trans h
theorem Rx.lows {w w' : World} {p n : Nat} {t : TypeId} {b : Bool} {v d : Value} (h : Rx w p t b v d) (hb : Below n w w') (hp : p < n) : Rx w' p t b v d := (hb.block p hp).trans h
set_option maxRecDepth 100000 in
set_option maxHeartbeats 4000000 in
theorem spec_detM (r c : Int) (v : Value) (L : List Fr) (w : World) (h : RatsAt w v L) :
    Calls Tryz.prog 37 #[.agg #[.int .i64 r, .int .i64 c, v]] w fun e w' => ∃ x y, e = .returned (.tuple #[.agg #[.bool (dtF r c L).neg, x, y], .bool (dtB r c L)]) ∧ OwnR w' w.heap.size x (dtF r c L).mag y (dtF r c L).den ∧ Below w.heap.size w w' := by
  obtain ⟨a, cap, rfl, hc, hm, hr⟩ := h
  have HR := Lib.hid (show RatsAt w (.slice a L.length cap) L from ⟨a, cap, rfl, hc, hm, hr⟩)
  unfold maxLen at hm
  clear hr
  obtain ⟨n, hnn⟩ : ∃ n, L.length = n := ⟨_, rfl⟩
  rw [hnn] at hc HR ⊢
  have HN := Lib.hid hnn
  clear hnn
  cases q0 : matB ratOk r c L with
  | false =>
    have HDO := Lib.hid (show dtOk r c L = false by unfold dtOk rdB; rw [q0]; simp)
    go_enter Tryz.func37, Tryz.ntmps37
    go_wp2_with fail
    obtain ⟨W0, hW0⟩ : ∃ x, x = (w.alloc (.cells #[.int .i64 r, .int .i64 c, .slice a n cap] 25)).alloc (.cells #[.bool false, .slice none 0 0, .slice none 0 0] 34) := ⟨_, rfl⟩
    have D := Lib.hid (show B3 W0 w.heap.size 25 (.int .i64 r) (.int .i64 c) (.slice a n cap) by rw [hW0]; exact (B3.new _ _ _ _ _).alloc _)
    have Z := Lib.hid (show Rx W0 (w.heap.size + 1) 34 false (.slice none 0 0) (.slice none 0 0) by rw [hW0]; exact b3_at (B3.new _ _ _ _ _) (by simp))
    have B0 := Lib.hid (show Below w.heap.size w W0 by rw [hW0]; exact ((Below.refl _ _).alloc (Nat.le_refl _) _).alloc (by simp) _)
    rw [← hW0]
    clear hW0
    have d0 := D.out.c0
    have d1 := D.out.c1
    have d2 := D.out.c2
    go_wp2_with fail
    have T := spec_matrixOk ratOk (fun b v zs d ds w h => spec_ratOk b v zs d ds w h) r c _ L W0 (HR.out.below B0.out)
    rw [q0] at T
    refine T.mono ?_
    rintro e w1 ⟨rfl, b1⟩
    replace D := Lib.hid (D.out.below b1)
    replace Z := Lib.hid (Z.out.below b1)
    replace B0 := Lib.hid (B0.out.trans (b1.mono B0.out.size))
    clear b1 T d0 d1 d2
    have d0 := D.out.c0
    have d1 := D.out.c1
    have d2 := D.out.c2
    have z0 := Z.out.c0
    have z1 := Z.out.c1
    have z2 := Z.out.c2
    have x0 := Z.out.f 0
    have x1 := Z.out.f 1
    have x2 := Z.out.f 2
    have V9 := Lib.hid (OwnR.set3 (b' := false) (ownR_none _ w.heap.size) Z.out (by decide) (.slice none 0 0) (.slice none 0 0))
    have B9 := Lib.hid (((B0.out.setCell (p := ⟨w.heap.size + 1, 0, none⟩) (by simp) (.bool false)).setCell (p := ⟨w.heap.size + 1, 1, none⟩) (by simp) (.slice none 0 0)).setCell (p := ⟨w.heap.size + 1, 2, none⟩) (by simp) (.slice none 0 0))
    have D8 := Rx.set3 (b' := false) (v' := .slice none 0 0) (d' := .slice none 0 0) Z.out
    have hc0 := D8.c0
    have hc1 := D8.c1
    have hc2 := D8.c2
    clear D8
    go_wp2_with fail
    obtain ⟨e1, e2⟩ := dt_no HDO.out
    exact bodyPost_ret (v := .tuple #[.agg #[.bool false, .slice none 0 0, .slice none 0 0], .bool false]) (by simp [results, Tryz.results37, go_sem, hc0, hc1, hc2]) rfl (by rw [e1, e2]; exact ⟨_, _, rfl, V9.out, B9.out⟩)
  | true =>
  obtain ⟨R, C, rfl, rfl, hR, hC, hLn, hRC, hE⟩ := matB_parts q0
  rw [HN.out] at hLn
  by_cases hne : R = C
  case neg =>
    have HDO := Lib.hid (show dtOk R C L = false by unfold dtOk; rw [decide_eq_false (by omega)]; rfl)
    have hb1 : ((R : Int) == (C : Int)) = false := by rw [beq_eq_false_iff_ne]; omega
    have hb2 : ((R : Int) != (C : Int)) = true := by unfold bne; rw [hb1]; rfl
    have hb3 : ¬ (R : Int) = (C : Int) := by omega
    clear hLn hRC hE
    go_enter Tryz.func37, Tryz.ntmps37
    go_wp2_with fail
    obtain ⟨W0, hW0⟩ : ∃ x, x = (w.alloc (.cells #[.int .i64 (R : Int), .int .i64 (C : Int), .slice a n cap] 25)).alloc (.cells #[.bool false, .slice none 0 0, .slice none 0 0] 34) := ⟨_, rfl⟩
    have D := Lib.hid (show B3 W0 w.heap.size 25 (.int .i64 (R : Int)) (.int .i64 (C : Int)) (.slice a n cap) by rw [hW0]; exact (B3.new _ _ _ _ _).alloc _)
    have Z := Lib.hid (show Rx W0 (w.heap.size + 1) 34 false (.slice none 0 0) (.slice none 0 0) by rw [hW0]; exact b3_at (B3.new _ _ _ _ _) (by simp))
    have B0 := Lib.hid (show Below w.heap.size w W0 by rw [hW0]; exact ((Below.refl _ _).alloc (Nat.le_refl _) _).alloc (by simp) _)
    rw [← hW0]
    clear hW0
    have d0 := D.out.c0
    have d1 := D.out.c1
    have d2 := D.out.c2
    go_wp2_with fail
    have T := spec_matrixOk ratOk (fun b v zs d ds w h => spec_ratOk b v zs d ds w h) (R : Int) (C : Int) _ L W0 (HR.out.below B0.out)
    rw [q0] at T
    refine T.mono ?_
    rintro e w1 ⟨rfl, b1⟩
    replace D := Lib.hid (D.out.below b1)
    replace Z := Lib.hid (Z.out.below b1)
    replace B0 := Lib.hid (B0.out.trans (b1.mono B0.out.size))
    clear b1 T d0 d1 d2
    have d0 := D.out.c0
    have d1 := D.out.c1
    have d2 := D.out.c2
    have z0 := Z.out.c0
    have z1 := Z.out.c1
    have z2 := Z.out.c2
    have x0 := Z.out.f 0
    have x1 := Z.out.f 1
    have x2 := Z.out.f 2
    have V9 := Lib.hid (OwnR.set3 (b' := false) (ownR_none _ w.heap.size) Z.out (by decide) (.slice none 0 0) (.slice none 0 0))
    have B9 := Lib.hid (((B0.out.setCell (p := ⟨w.heap.size + 1, 0, none⟩) (by simp) (.bool false)).setCell (p := ⟨w.heap.size + 1, 1, none⟩) (by simp) (.slice none 0 0)).setCell (p := ⟨w.heap.size + 1, 2, none⟩) (by simp) (.slice none 0 0))
    have D8 := Rx.set3 (b' := false) (v' := .slice none 0 0) (d' := .slice none 0 0) Z.out
    have hc0 := D8.c0
    have hc1 := D8.c1
    have hc2 := D8.c2
    clear D8
    go_wp2_with fail
    obtain ⟨e1, e2⟩ := dt_no HDO.out
    exact bodyPost_ret (v := .tuple #[.agg #[.bool false, .slice none 0 0, .slice none 0 0], .bool false]) (by simp [results, Tryz.results37, go_sem, hc0, hc1, hc2]) rfl (by rw [e1, e2]; exact ⟨_, _, rfl, V9.out, B9.out⟩)
  case pos =>
    subst hne
    have HLN := Lib.hid hLn
    have HEO := Lib.hid (all_okF hE)
    have HCP := Lib.hid (fun W (hW : Below w.heap.size w W) => (spec_copyM R R n cap a L W (HR.out.below hW) (by rw [HN.out]; omega) hE).mono (R' := fun e w' => ∃ c' a' xs, e = .returned (.agg #[.int .i64 (R : Int), .int .i64 (R : Int), .slice a' n c']) ∧ OwnV w' W.heap.size (.slice a' n c') L xs ∧ Below W.heap.size W w') (fun e w' ⟨c', a', xs, he, ho, hb⟩ => by
      rw [HN.out] at he ho
      exact ⟨c', a', xs, he, ho, hb⟩))
    obtain ⟨E, hE0⟩ : ∃ E, E = runE R R R (startE L R) := ⟨_, rfl⟩
    have HRE := Lib.hid (show rdE R R L = E by rw [hE0]; rfl)
    have HDB := Lib.hid (show dtOk R R L = fineG R R E.g by unfold dtOk rdB; rw [q0, HRE.out, decide_eq_true rfl]; rfl)
    have HEK := Lib.hid (show fineG R R E.g = true → ElOk R R E R from fun hf => by rw [hE0] at hf ⊢; exact (runE_start_ok (by rw [HN.out]; exact hLn) (all_okF hE)).2 hf)
    have HRX := Lib.hid (fun (B : Nat) W (c' : Nat) (a' : Option Addr) xs (hV : OwnV W B (.slice a' n c') L xs) (hB : B ≤ W.heap.size) => (spec_reduceE R R n c' B a' L xs W hV (by rw [HN.out]; exact HLN.out) HLN.out hR hC HEO.out hB))
    rw [← hE0] at HRX
    clear hLn hRC hE hE0
    go_enter Tryz.func37, Tryz.ntmps37
    go_wp2_with fail
    obtain ⟨W0, hW0⟩ : ∃ x, x = (w.alloc (.cells #[.int .i64 (R : Int), .int .i64 (R : Int), .slice a n cap] 25)).alloc (.cells #[.bool false, .slice none 0 0, .slice none 0 0] 34) := ⟨_, rfl⟩
    have D := Lib.hid (show B3 W0 w.heap.size 25 (.int .i64 (R : Int)) (.int .i64 (R : Int)) (.slice a n cap) by rw [hW0]; exact (B3.new _ _ _ _ _).alloc _)
    have Z := Lib.hid (show Rx W0 (w.heap.size + 1) 34 false (.slice none 0 0) (.slice none 0 0) by rw [hW0]; exact b3_at (B3.new _ _ _ _ _) (by simp))
    have B0 := Lib.hid (show Below w.heap.size w W0 by rw [hW0]; exact ((Below.refl _ _).alloc (Nat.le_refl _) _).alloc (by simp) _)
    rw [← hW0]
    clear hW0
    have d0 := D.out.c0
    have d1 := D.out.c1
    have d2 := D.out.c2
    go_wp2_with fail
    have T := spec_matrixOk ratOk (fun b v zs d ds w h => spec_ratOk b v zs d ds w h) (R : Int) (R : Int) _ L W0 (HR.out.below B0.out)
    rw [q0] at T
    refine T.mono ?_
    rintro e w1 ⟨rfl, b1⟩
    replace D := Lib.hid (D.out.below b1)
    replace Z := Lib.hid (Z.out.below b1)
    replace B0 := Lib.hid (B0.out.trans (b1.mono B0.out.size))
    clear b1 T d0 d1 d2
    have d0 := D.out.c0
    have d1 := D.out.c1
    have d2 := D.out.c2
    go_wp2_with fail
    refine (HCP.out _ B0.out).mono ?_
    rintro e w2 ⟨c', a', xs, rfl, o2, b2⟩
    obtain ⟨h1, hh1⟩ : ∃ x, x = w1.heap.size := ⟨_, rfl⟩
    have hD1 : w.heap.size < h1 := by rw [hh1]; exact D.out.lt
    have hZ1 : w.heap.size + 1 < h1 := by rw [hh1]; exact Z.out.lt
    have hw1 : w.heap.size ≤ h1 := by omega
    have B2 := Lib.hid (B0.out.trans (b2.mono B0.out.size))
    replace D := Lib.hid (D.out.below b2)
    replace Z := Lib.hid (Z.out.below b2)
    have hs2 : h1 ≤ w2.heap.size := by rw [hh1]; exact b2.size
    rw [← hh1] at o2
    have O2 := Lib.hid o2
    clear hh1 b2 o2 B0 HCP HR d0 d1 d2
    obtain ⟨h5, hh5⟩ : ∃ x, x = w2.heap.size := ⟨_, rfl⟩
    obtain ⟨W3, hW3⟩ : ∃ x, x = w2.alloc (.cells #[.int .i64 (R : Int), .int .i64 (R : Int), .slice a' n c'] 25) := ⟨_, rfl⟩
    have b3 := (show Below w2.heap.size w2 W3 by rw [hW3]; exact (Below.refl _ _).alloc (Nat.le_refl _) _)
    have M3 := Lib.hid (show B3 W3 h5 25 (.int .i64 (R : Int)) (.int .i64 (R : Int)) (.slice a' n c') by rw [hW3, hh5]; exact B3.new _ _ _ _ _)
    replace D := Lib.hid (D.out.below b3)
    replace Z := Lib.hid (Z.out.below b3)
    have V3 := Lib.hid (O2.out.below b3)
    have B3' := Lib.hid (B2.out.trans (b3.mono B2.out.size))
    have hs3 : h1 ≤ W3.heap.size := Nat.le_trans hs2 b3.size
    have HW3 := Lib.hid hW3.symm
    have HH5 := Lib.hid hh5.symm
    have m0 := M3.out.c0
    have m1 := M3.out.c1
    have m2 := M3.out.c2
    clear hW3 hh5 b3 O2 B2
    go_wp2_with (rw [HW3.out, HH5.out])
    refine (HRX.out h1 W3 c' a' xs V3.out hs3).mono ?_
    rintro e w4 ⟨pv, fv, ys, ps, rfl, hS, b4, km⟩
    have S4 := Lib.hid hS
    have M4 := Lib.hid (km _ _ _ _ M3.out)
    replace D := Lib.hid (D.out.lows b4 hD1)
    replace Z := Lib.hid (Z.out.lows b4 hZ1)
    have B4 := Lib.hid (B3'.out.trans (b4.mono hw1))
    have HFN := Lib.hid (spec_fine (.slice a' n c') (tabM R R E.g) w4 hS.V.rats)
    obtain ⟨pa, pc, hpv⟩ := hS.P.slice
    rw [natV_len] at hpv
    obtain ⟨pl, hpl⟩ : ∃ x, x = E.piv.length := ⟨_, rfl⟩
    rw [← hpl] at hpv
    have HPL := Lib.hid hpl
    subst hpv
    clear hS b4 km M3 V3 B3' HRX HW3 HH5 m0 m1 m2 hpl
    have m0 := M4.out.c0
    have m1 := M4.out.c1
    have m2 := M4.out.c2
    cases hq : fineG R R E.g with
    | false =>
      have HDO := Lib.hid (show dtOk R R L = false by rw [HDB.out]; exact hq)
      have hq' : fineV (tabM R R E.g) = false := hq
      rw [hq'] at HFN
      go_wp2_with fail
      refine (HFN.out).mono ?_
      rintro e w5 ⟨rfl, b5⟩
      have Z5 := Lib.hid (Z.out.below b5)
      have B5' := Lib.hid (B4.out.trans (b5.mono B4.out.size))
      clear b5 HFN S4 M4 Z B4 D m0 m1 m2
      have z0 := Z5.out.c0
      have z1 := Z5.out.c1
      have z2 := Z5.out.c2
      have x0 := Z5.out.f 0
      have x1 := Z5.out.f 1
      have x2 := Z5.out.f 2
      have V9 := Lib.hid (OwnR.set3 (b' := false) (ownR_none _ w.heap.size) Z5.out (by decide) (.slice none 0 0) (.slice none 0 0))
      have B9 := Lib.hid (((B5'.out.setCell (p := ⟨w.heap.size + 1, 0, none⟩) (by simp) (.bool false)).setCell (p := ⟨w.heap.size + 1, 1, none⟩) (by simp) (.slice none 0 0)).setCell (p := ⟨w.heap.size + 1, 2, none⟩) (by simp) (.slice none 0 0))
      have D8 := Rx.set3 (b' := false) (v' := .slice none 0 0) (d' := .slice none 0 0) Z5.out
      have hc0 := D8.c0
      have hc1 := D8.c1
      have hc2 := D8.c2
      clear D8
      go_wp2_with fail
      obtain ⟨e1, e2⟩ := dt_no HDO.out
      exact bodyPost_ret (v := .tuple #[.agg #[.bool false, .slice none 0 0, .slice none 0 0], .bool false]) (by simp [results, Tryz.results37, go_sem, hc0, hc1, hc2]) rfl (by rw [e1, e2]; exact ⟨_, _, rfl, V9.out, B9.out⟩)
    | true =>
      have HDO := Lib.hid (show dtOk R R L = true by rw [HDB.out]; exact hq)
      have EK := Lib.hid (HEK.out hq)
      have hq' : fineV (tabM R R E.g) = true := hq
      rw [hq'] at HFN
      go_wp2_with fail
      refine (HFN.out).mono ?_
      rintro e w5 ⟨rfl, b5⟩
      have Z5 := Lib.hid (Z.out.below b5)
      have D5 := Lib.hid (D.out.below b5)
      have S5 := Lib.hid (S4.out.below b5)
      have B5' := Lib.hid (B4.out.trans (b5.mono B4.out.size))
      clear b5 HFN S4 M4 Z B4 D m0 m1 m2
      have d0 := D5.out.c0
      by_cases hfew : pl < R
      · have HFW := Lib.hid (show dtFew R R L = true by unfold dtFew; rw [HRE.out, ← HPL.out, Int.toNat_natCast]; exact decide_eq_true hfew)
        go_wp2_with fail
        refine (spec_zeroF w5).mono ?_
        rintro e w6 ⟨x, y, rfl, o6, b6⟩
        obtain ⟨va, vc, ve, vf, rfl, rfl⟩ := o6.slices
        have Z6 := Lib.hid (Z5.out.below b6)
        have B6' := Lib.hid (B5'.out.trans (b6.mono B5'.out.size))
        have O6 := Lib.hid (o6.base B5'.out.size)
        clear o6 b6 Z5 B5' D5 S5 d0
        have z0 := Z6.out.c0
        have z1 := Z6.out.c1
        have z2 := Z6.out.c2
        have x0 := Z6.out.f 0
        have x1 := Z6.out.f 1
        have x2 := Z6.out.f 2
        have V9 := Lib.hid (OwnR.set3 (b' := zF.neg) O6.out Z6.out (by decide) (.slice va zF.mag.length vc) (.slice ve zF.den.length vf))
        have B9 := Lib.hid (((B6'.out.setCell (p := ⟨w.heap.size + 1, 0, none⟩) (by simp) (.bool zF.neg)).setCell (p := ⟨w.heap.size + 1, 1, none⟩) (by simp) (.slice va zF.mag.length vc)).setCell (p := ⟨w.heap.size + 1, 2, none⟩) (by simp) (.slice ve zF.den.length vf))
        have D8 := Rx.set3 (b' := zF.neg) (v' := .slice va zF.mag.length vc) (d' := .slice ve zF.den.length vf) Z6.out
        have hc0 := D8.c0
        have hc1 := D8.c1
        have hc2 := D8.c2
        clear D8
        go_wp2_with fail
        obtain ⟨e1, e2⟩ := dt_few HDO.out HFW.out
        exact bodyPost_ret (v := .tuple #[.agg #[.bool zF.neg, .slice va zF.mag.length vc, .slice ve zF.den.length vf], .bool true]) (by simp [results, Tryz.results37, go_sem, hc0, hc1, hc2]) rfl (by rw [e1, e2]; exact ⟨_, _, rfl, V9.out, B9.out⟩)
      · have HFW := Lib.hid (show dtFew R R L = false by unfold dtFew; rw [HRE.out, ← HPL.out, Int.toNat_natCast]; exact decide_eq_false hfew)
        obtain ⟨F, hF0⟩ : ∃ x, x = E.fac := ⟨_, rfl⟩
        have HDP := Lib.hid (show dtP R R L = prodX oF F by unfold dtP; rw [HRE.out, hF0])
        have HFO := Lib.hid (show F.all okF = true by rw [hF0, List.all_eq_true]; exact EK.out.fac)
        have HFL := Lib.hid (show F.length ≤ 48 by rw [hF0]; have := EK.out.count; omega)
        have RF := Lib.hid (show RatsAt w5 fv F by rw [hF0]; exact S5.out.facs)
        have CO := spec_ratFromInt 1 w5 (by omega)
        rw [of_one.1, of_one.2] at CO
        clear hF0
        go_wp2_with fail
        refine CO.mono ?_
        rintro e w6 ⟨x, y, rfl, o6, b6⟩
        obtain ⟨va0, vc0, ve0, vf0, rfl, rfl⟩ := o6.slices
        have Z6 := Lib.hid (Z5.out.below b6)
        have B6' := Lib.hid (B5'.out.trans (b6.mono B5'.out.size))
        have O6 := Lib.hid (o6.base B5'.out.size)
        have RF6 := Lib.hid (RF.out.below b6)
        clear o6 b6 Z5 B5' D5 S5 d0 RF CO
        obtain ⟨fa, fc, rfl, hfc, hfm, _⟩ := RF6.out
        unfold maxLen at hfm
        obtain ⟨nf, hnf⟩ : ∃ x, F.length = x := ⟨_, rfl⟩
        have HNF := Lib.hid hnf
        rw [hnf] at hfc HFL RF6 ⊢
        clear hnf
        obtain ⟨t7, ht7'⟩ : ∃ x, x = w6.heap.size := ⟨_, rfl⟩
        have ht7 : t7 ≠ w.heap.size + 1 := by rw [ht7']; have := Z6.out.lt; omega
        obtain ⟨W7, hW7⟩ : ∃ x, x = w6.alloc (.cells #[.bool false, .slice va0 1 vc0, .slice ve0 1 vf0] 34) := ⟨_, rfl⟩
        have P7 := Lib.hid (show Rx W7 t7 34 (prodX oF (F.take 0)).neg (.slice va0 1 vc0) (.slice ve0 1 vf0) by rw [hW7, ht7']; exact Rx.new _ _ _ _ _)
        have V7 := Lib.hid (show OwnR W7 w.heap.size (.slice va0 1 vc0) (prodX oF (F.take 0)).mag (.slice ve0 1 vf0) (prodX oF (F.take 0)).den by rw [hW7]; exact O6.out.alloc _)
        have BW := Lib.hid (show Below w6.heap.size w6 W7 by rw [hW7]; exact (Below.refl _ _).alloc (Nat.le_refl _) _)
        have HT7 := Lib.hid ht7'
        have HW7 := Lib.hid hW7.symm
        clear hW7 ht7' O6
        go_wp2_with (rw [HW7.out, ← HT7.out])
        go_loopw [42] (fun iv wr => ∃ (i : Nat) (x y : Value), i ≤ nf ∧ iv = .int .i64 i ∧ Hid (Rx wr t7 34 (prodX oF (F.take i)).neg x y) ∧ Hid (OwnR wr w.heap.size x (prodX oF (F.take i)).mag y (prodX oF (F.take i)).den) ∧ Hid (Below w6.heap.size w6 wr)) (fun iv _ => nf - (intOf iv).toNat)
        case atStart => exact ⟨0, _, _, Nat.zero_le _, rfl, P7, V7, BW⟩
        case round =>
          clear P7 V7 BW
          obtain ⟨i, x, y, hi, rfl, P, V, BR⟩ := hrel
          obtain ⟨va, vc, ve, vf, rfl, rfl⟩ := V.out.slices
          have HGT := Lib.hid (prod_good (f0 := oF) (F := F.take i) (.inr ok_one) (okF_take HFO.out i))
          obtain ⟨T, hT⟩ : ∃ T, T = prodX oF (F.take i) := ⟨_, rfl⟩
          rw [← hT] at P V HGT
          have HT := Lib.hid hT
          clear hT
          by_cases hlt : i < nf
          · have hltF : i < F.length := by rw [HNF.out]; exact hlt
            obtain ⟨fa9, fc9, e9, _, _, hrow⟩ := RF6.out.below BR.out
            injection e9 with q1 q2 q3
            subst q1
            clear q2 q3
            obtain ⟨b, o, x', y', rfl, s0, s1, s2, hrr⟩ := hrow i hltF
            obtain ⟨f, hf⟩ : ∃ f, f = F[i]'hltF := ⟨_, rfl⟩
            rw [← hf] at s0 hrr
            have hok := (List.all_eq_true.1 HFO.out) f (by rw [hf]; exact List.getElem_mem _)
            have HFF := Lib.hid hf
            obtain ⟨a1, r1, a3, r3, rfl, rfl, hz1, hz2⟩ := rowR_len hrr
            have RR := Lib.hid hrr
            clear hf hrr hrow
            go_upto_region 13 with fail
            obtain ⟨p6, hp6⟩ : ∃ x, x = wr.heap.size := ⟨_, rfl⟩
            obtain ⟨W5, hW5⟩ : ∃ x, x = wr.alloc (.cells #[.bool f.neg, .slice a1 f.mag.length r1, .slice a3 f.den.length r3] 34) := ⟨_, rfl⟩
            have b5 := (show Below wr.heap.size wr W5 by rw [hW5]; exact (Below.refl _ _).alloc (Nat.le_refl _) _)
            have F6 := Lib.hid (show Rx W5 p6 34 f.neg (.slice a1 f.mag.length r1) (.slice a3 f.den.length r3) by rw [hW5, hp6]; exact Rx.new _ _ _ _ _)
            replace P := Lib.hid (P.out.below b5)
            replace V := Lib.hid (V.out.below b5)
            replace RR := Lib.hid (RR.out.below b5)
            replace BR := Lib.hid (BR.out.trans (b5.mono BR.out.size))
            rw [← hW5, ← hp6]
            clear hW5 hp6 b5 s0 s1 s2
            have c0 := P.out.c0
            have c1 := P.out.c1
            have c2 := P.out.c2
            have f0' := F6.out.c0
            have f1' := F6.out.c1
            have f2' := F6.out.c2
            go_wp2_with fail
            refine (spec_mulF T f (gd_small HGT.out) (small_ok hok) _ _ _ _ W5 V.out.row RR.out).mono ?_
            rintro ee w7 ⟨x', y', rfl, o7, b7⟩
            obtain ⟨va7, vc7, ve7, vf7, rfl, rfl⟩ := o7.slices
            have e7 : mulX T f = prodX oF (F.take (i + 1)) := by rw [prod_take hltF, HT.out, HFF.out]
            rw [e7] at o7
            have hB7 : w.heap.size ≤ W5.heap.size := Nat.le_trans B6'.out.size BR.out.size
            have HP7 := P.out.below b7
            have y0 := HP7.c0
            have y1 := HP7.c1
            have y2 := HP7.c2
            have y3 := HP7.f 0
            have y4 := HP7.f 1
            have y5 := HP7.f 2
            have PF := Lib.hid (Rx.set3 (b' := (prodX oF (F.take (i + 1))).neg) (v' := .slice va7 (prodX oF (F.take (i + 1))).mag.length vc7) (d' := .slice ve7 (prodX oF (F.take (i + 1))).den.length vf7) HP7)
            have VF := Lib.hid ((OwnR.set3 (b' := (prodX oF (F.take (i + 1))).neg) o7 HP7 (by decide) (.slice va7 (prodX oF (F.take (i + 1))).mag.length vc7) (.slice ve7 (prodX oF (F.take (i + 1))).den.length vf7)).base hB7)
            have ht6 : w6.heap.size ≤ t7 := by rw [HT7.out]; exact Nat.le_refl _
            have BF := Lib.hid ((((BR.out.trans (b7.mono BR.out.size)).setCell (p := ⟨t7, 0, none⟩) ht6 (.bool (prodX oF (F.take (i + 1))).neg)).setCell (p := ⟨t7, 1, none⟩) ht6 (.slice va7 (prodX oF (F.take (i + 1))).mag.length vc7)).setCell (p := ⟨t7, 2, none⟩) ht6 (.slice ve7 (prodX oF (F.take (i + 1))).den.length vf7))
            rw [e7]
            clear o7 b7 HP7 e7 P V RR F6 BR f0' f1' f2' c0 c1 c2 HGT
            go_wp2_with fail
            exact ⟨⟨i + 1, _, _, by omega, by go_num, PF, VF, BF⟩, by simp [intOf]; omega⟩
          · obtain rfl : i = nf := by omega
            replace HDP := Lib.hid (show dtP R R L = T by rw [HDP.out, HT.out, ← HNF.out, List.take_length])
            have BB := Lib.hid (B6'.out.trans (BR.out.mono B6'.out.size))
            have Z := Lib.hid (Z6.out.below BR.out)
            have HS := Lib.hid (show ∀ W : World, Below wr.heap.size wr W → (W.cell? ⟨t7, 0, none⟩ = some (.bool T.neg) ∧ W.cell? ⟨t7, 1, none⟩ = some (.slice va T.mag.length vc) ∧ W.cell? ⟨t7, 2, none⟩ = some (.slice ve T.den.length vf)) from fun W hW => ⟨(P.out.below hW).c0, (P.out.below hW).c1, (P.out.below hW).c2⟩)
            have HBD := Lib.hid (fun W (hW : Below wr.heap.size wr W) => (spec_bad T.neg _ T.mag _ T.den W (V.out.row.below hW)).mono (R' := fun e w' => e = .returned (.bool (decide (T.den.length = 0))) ∧ Below wr.heap.size wr w') (fun e w' ⟨he, hb⟩ => ⟨he, hW.trans (hb.mono hW.size)⟩))
            have HZ := Lib.hid (fun W (hW : Below wr.heap.size wr W) => Z.out.below hW)
            have c0 := P.out.c0
            have c1 := P.out.c1
            have c2 := P.out.c2
            go_wp2_with fail
            go_region_held3 (fun w' => w'.cell? ⟨t7, 0, none⟩ = some (.bool T.neg) ∧ w'.cell? ⟨t7, 1, none⟩ = some (.slice va T.mag.length vc) ∧ w'.cell? ⟨t7, 2, none⟩ = some (.slice ve T.den.length vf))
              (first | exact HS.out _ (by first | with_reducible exact Below.refl _ _ | with_reducible exact (Below.refl _ _).drew | with_reducible exact bb_a | fail) | exact ⟨(cell_far3 ht7 _ _ _).trans ((HS.out _ (by first | with_reducible exact Below.refl _ _ | with_reducible exact (Below.refl _ _).drew | with_reducible exact bb_a | fail)).1), (cell_far3 ht7 _ _ _).trans ((HS.out _ (by first | with_reducible exact Below.refl _ _ | with_reducible exact (Below.refl _ _).drew | with_reducible exact bb_a | fail)).2.1), (cell_far3 ht7 _ _ _).trans ((HS.out _ (by first | with_reducible exact Below.refl _ _ | with_reducible exact (Below.refl _ _).drew | with_reducible exact bb_a | fail)).2.2)⟩)
              (first
                | (go_at_call 84; refine (HBD.out _ (by first | with_reducible exact Below.refl _ _ | with_reducible exact (Below.refl _ _).drew | with_reducible exact bb_a | fail)).mono ?_; rintro ee w_a ⟨rfl, bb_a⟩; have Y_a := HZ.out _ bb_a; have y0 := Y_a.c0; have y1 := Y_a.c1; have y2 := Y_a.c2; have y3 := Y_a.f 0; have y4 := Y_a.f 1; have y5 := Y_a.f 2))
            all_goals (have V9 := Lib.hid (OwnR.set3 (b' := T.neg) (V.out.below bb_a) Y_a (by decide) (.slice va T.mag.length vc) (.slice ve T.den.length vf)))
            all_goals (have B9 := Lib.hid ((((BB.out.trans (bb_a.mono BB.out.size)).setCell (p := ⟨w.heap.size + 1, 0, none⟩) (by simp) (.bool T.neg)).setCell (p := ⟨w.heap.size + 1, 1, none⟩) (by simp) (.slice va T.mag.length vc)).setCell (p := ⟨w.heap.size + 1, 2, none⟩) (by simp) (.slice ve T.den.length vf)))
            all_goals (have D8 := Rx.set3 (b' := T.neg) (v' := .slice va T.mag.length vc) (d' := .slice ve T.den.length vf) Y_a)
            all_goals (have hc0 := D8.c0; have hc1 := D8.c1; have hc2 := D8.c2)
            all_goals clear D8
            all_goals go_wp2_with fail
            all_goals obtain ⟨e1, e2⟩ := dt_full HDO.out HFW.out
            all_goals rw [HDP.out] at e1 e2
            all_goals exact bodyPost_ret (v := .tuple #[.agg #[.bool T.neg, .slice va T.mag.length vc, .slice ve T.den.length vf], .bool (!(decide (T.den.length = 0)))]) (by simp [results, Tryz.results37, go_sem, hc0, hc1, hc2]) rfl (by rw [e1, e2]; exact ⟨_, _, rfl, V9.out, B9.out⟩)

set_option maxRecDepth 100000 in
set_option maxHeartbeats 4000000 in
theorem impl_detM (r c : Int) (v : Value) (L : List Fr) (w : World) (h : RatsAt w v L) :
    Calls Tryz.prog 14 #[.agg #[.int .i64 r, .int .i64 c, v]] w fun e w' => ∃ x y, e = .returned (.tuple #[.agg #[.bool (dtF r c L).neg, x, y], .bool (dtB r c L)]) ∧ OwnR w' w.heap.size x (dtF r c L).mag y (dtF r c L).den ∧ Below w.heap.size w w' := by
  obtain ⟨a, cap, rfl, hc, hm, hr⟩ := h
  have HR := Lib.hid (show RatsAt w (.slice a L.length cap) L from ⟨a, cap, rfl, hc, hm, hr⟩)
  unfold maxLen at hm
  clear hr
  obtain ⟨n, hnn⟩ : ∃ n, L.length = n := ⟨_, rfl⟩
  rw [hnn] at hc HR ⊢
  have HN := Lib.hid hnn
  clear hnn
  by_cases hne : r = c
  case neg =>
    have HDO := Lib.hid (show dtOk r c L = false by unfold dtOk; rw [decide_eq_false hne]; rfl)
    have hb1 : (r == c) = false := by rw [beq_eq_false_iff_ne]; exact hne
    have hb2 : (r != c) = true := by unfold bne; rw [hb1]; rfl
    go_enter Tryz.func14, Tryz.ntmps14
    go_wp2_with fail
    obtain ⟨W0, hW0⟩ : ∃ x, x = (w.alloc (.cells #[.int .i64 r, .int .i64 c, .slice a n cap] 25)).alloc (.cells #[.bool false, .slice none 0 0, .slice none 0 0] 34) := ⟨_, rfl⟩
    have D := Lib.hid (show B3 W0 w.heap.size 25 (.int .i64 r) (.int .i64 c) (.slice a n cap) by rw [hW0]; exact (B3.new _ _ _ _ _).alloc _)
    have Z := Lib.hid (show Rx W0 (w.heap.size + 1) 34 false (.slice none 0 0) (.slice none 0 0) by rw [hW0]; exact b3_at (B3.new _ _ _ _ _) (by simp))
    have B0 := Lib.hid (show Below w.heap.size w W0 by rw [hW0]; exact ((Below.refl _ _).alloc (Nat.le_refl _) _).alloc (by simp) _)
    rw [← hW0]
    clear hW0
    have d0 := D.out.c0
    have d1 := D.out.c1
    have d2 := D.out.c2
    have z0 := Z.out.c0
    have z1 := Z.out.c1
    have z2 := Z.out.c2
    obtain ⟨e1, e2⟩ := dt_no HDO.out
    exact bodyPost_ret (v := .tuple #[.agg #[.bool false, .slice none 0 0, .slice none 0 0], .bool false]) (by simp [results, Tryz.results14, go_sem, z0, z1, z2]) rfl (by rw [e1, e2]; exact ⟨_, _, rfl, ownR_none _ _, B0.out⟩)
  case pos =>
  subst hne
  have hb1 : (r != r) = false := by simp
  cases q0 : matB ratOk r r L with
  | false =>
    have HDO := Lib.hid (show dtOk r r L = false by unfold dtOk rdB; rw [q0]; simp)
    go_enter Tryz.func14, Tryz.ntmps14
    go_wp2_with fail
    obtain ⟨W0, hW0⟩ : ∃ x, x = (w.alloc (.cells #[.int .i64 r, .int .i64 r, .slice a n cap] 25)).alloc (.cells #[.bool false, .slice none 0 0, .slice none 0 0] 34) := ⟨_, rfl⟩
    have D := Lib.hid (show B3 W0 w.heap.size 25 (.int .i64 r) (.int .i64 r) (.slice a n cap) by rw [hW0]; exact (B3.new _ _ _ _ _).alloc _)
    have Z := Lib.hid (show Rx W0 (w.heap.size + 1) 34 false (.slice none 0 0) (.slice none 0 0) by rw [hW0]; exact b3_at (B3.new _ _ _ _ _) (by simp))
    have B0 := Lib.hid (show Below w.heap.size w W0 by rw [hW0]; exact ((Below.refl _ _).alloc (Nat.le_refl _) _).alloc (by simp) _)
    rw [← hW0]
    clear hW0
    have d0 := D.out.c0
    have d1 := D.out.c1
    have d2 := D.out.c2
    go_wp2_with fail
    have T := impl_matrixOkH ratOk (fun v L w h => impl_isV v L w h) r r _ L W0 (HR.out.below B0.out)
    rw [q0] at T
    refine T.mono ?_
    rintro e w1 ⟨rfl, b1⟩
    replace D := Lib.hid (D.out.below b1)
    replace Z := Lib.hid (Z.out.below b1)
    replace B0 := Lib.hid (B0.out.trans (b1.mono B0.out.size))
    clear b1 T d0 d1 d2
    have d0 := D.out.c0
    have d1 := D.out.c1
    have d2 := D.out.c2
    have z0 := Z.out.c0
    have z1 := Z.out.c1
    have z2 := Z.out.c2
    have x0 := Z.out.f 0
    have x1 := Z.out.f 1
    have x2 := Z.out.f 2
    have V9 := Lib.hid (OwnR.set3 (b' := false) (ownR_none _ w.heap.size) Z.out (by decide) (.slice none 0 0) (.slice none 0 0))
    have B9 := Lib.hid (((B0.out.setCell (p := ⟨w.heap.size + 1, 0, none⟩) (by simp) (.bool false)).setCell (p := ⟨w.heap.size + 1, 1, none⟩) (by simp) (.slice none 0 0)).setCell (p := ⟨w.heap.size + 1, 2, none⟩) (by simp) (.slice none 0 0))
    have D8 := Rx.set3 (b' := false) (v' := .slice none 0 0) (d' := .slice none 0 0) Z.out
    have hc0 := D8.c0
    have hc1 := D8.c1
    have hc2 := D8.c2
    clear D8
    go_wp2_with fail
    obtain ⟨e1, e2⟩ := dt_no HDO.out
    exact bodyPost_ret (v := .tuple #[.agg #[.bool false, .slice none 0 0, .slice none 0 0], .bool false]) (by simp [results, Tryz.results14, go_sem, hc0, hc1, hc2]) rfl (by rw [e1, e2]; exact ⟨_, _, rfl, V9.out, B9.out⟩)
  | true =>
    obtain ⟨R, C, hrR, hrC, hR, hC, hLn, hRC, hE⟩ := matB_parts q0
    obtain rfl : R = C := by omega
    subst hrR
    clear hrC
    rw [HN.out] at hLn
    have hb2 : ((R : Int) == (R : Int)) = true := by simp
    obtain ⟨E, hE0⟩ : ∃ E, E = runE R R R (startE L R) := ⟨_, rfl⟩
    have HRE := Lib.hid (show rdE R R L = E by rw [hE0]; rfl)
    have HDB := Lib.hid (show dtOk R R L = fineG R R E.g by unfold dtOk rdB; rw [q0, HRE.out, decide_eq_true rfl]; rfl)
    have HEK := Lib.hid (show fineG R R E.g = true → ElOk R R E R from fun hf => by rw [hE0] at hf ⊢; exact (runE_start_ok (by rw [HN.out]; exact hLn) (all_okF hE)).2 hf)
    have HEX := Lib.hid (fun W (hW : Below w.heap.size w W) => impl_elim R R n cap a L W (HR.out.below hW) HN.out hLn hR hC hE)
    rw [← hE0] at HEX
    clear hLn hRC hE hE0
    go_enter Tryz.func14, Tryz.ntmps14
    go_wp2_with fail
    obtain ⟨W0, hW0⟩ : ∃ x, x = (w.alloc (.cells #[.int .i64 (R : Int), .int .i64 (R : Int), .slice a n cap] 25)).alloc (.cells #[.bool false, .slice none 0 0, .slice none 0 0] 34) := ⟨_, rfl⟩
    have D := Lib.hid (show B3 W0 w.heap.size 25 (.int .i64 (R : Int)) (.int .i64 (R : Int)) (.slice a n cap) by rw [hW0]; exact (B3.new _ _ _ _ _).alloc _)
    have Z := Lib.hid (show Rx W0 (w.heap.size + 1) 34 false (.slice none 0 0) (.slice none 0 0) by rw [hW0]; exact b3_at (B3.new _ _ _ _ _) (by simp))
    have B0 := Lib.hid (show Below w.heap.size w W0 by rw [hW0]; exact ((Below.refl _ _).alloc (Nat.le_refl _) _).alloc (by simp) _)
    rw [← hW0]
    clear hW0
    have d0 := D.out.c0
    have d1 := D.out.c1
    have d2 := D.out.c2
    go_wp2_with fail
    have T := impl_matrixOkH ratOk (fun v L w h => impl_isV v L w h) (R : Int) (R : Int) _ L W0 (HR.out.below B0.out)
    rw [q0] at T
    refine T.mono ?_
    rintro e w1 ⟨rfl, b1⟩
    replace D := Lib.hid (D.out.below b1)
    replace Z := Lib.hid (Z.out.below b1)
    replace B0 := Lib.hid (B0.out.trans (b1.mono B0.out.size))
    clear b1 T d0 d1 d2
    have d0 := D.out.c0
    have d1 := D.out.c1
    have d2 := D.out.c2
    have HX := Lib.hid (HEX.out w1 B0.out)
    clear HEX
    cases hq : fineG R R E.g with
    | false =>
      rw [hq] at HX
      have HDO := Lib.hid (show dtOk R R L = false by rw [HDB.out]; exact hq)
      go_wp2_with fail
      refine (HX.out).mono ?_
      rintro e w5 ⟨p, rfl, hp, b5⟩
      have Z5 := Lib.hid (Z.out.below b5)
      have B5' := Lib.hid (B0.out.trans (b5.mono B0.out.size))
      clear b5 HX hp Z D B0 d0 d1 d2
      have z0 := Z5.out.c0
      have z1 := Z5.out.c1
      have z2 := Z5.out.c2
      have x0 := Z5.out.f 0
      have x1 := Z5.out.f 1
      have x2 := Z5.out.f 2
      have V9 := Lib.hid (OwnR.set3 (b' := false) (ownR_none _ w.heap.size) Z5.out (by decide) (.slice none 0 0) (.slice none 0 0))
      have B9 := Lib.hid (((B5'.out.setCell (p := ⟨w.heap.size + 1, 0, none⟩) (by simp) (.bool false)).setCell (p := ⟨w.heap.size + 1, 1, none⟩) (by simp) (.slice none 0 0)).setCell (p := ⟨w.heap.size + 1, 2, none⟩) (by simp) (.slice none 0 0))
      have D8 := Rx.set3 (b' := false) (v' := .slice none 0 0) (d' := .slice none 0 0) Z5.out
      have hc0 := D8.c0
      have hc1 := D8.c1
      have hc2 := D8.c2
      clear D8
      go_wp2_with fail
      obtain ⟨e1, e2⟩ := dt_no HDO.out
      exact bodyPost_ret (v := .tuple #[.agg #[.bool false, .slice none 0 0, .slice none 0 0], .bool false]) (by simp [results, Tryz.results14, go_sem, hc0, hc1, hc2]) rfl (by rw [e1, e2]; exact ⟨_, _, rfl, V9.out, B9.out⟩)
    | true =>
      rw [hq] at HX
      have HDO := Lib.hid (show dtOk R R L = true by rw [HDB.out]; exact hq)
      have EK := Lib.hid (HEK.out hq)
      go_wp2_with fail
      refine (HX.out).mono ?_
      rintro e w4 ⟨p, rfl, hp, b4⟩
      obtain ⟨g, pv, fv, xs, ps, hP⟩ := hp (by trivial)
      have P4 := Lib.hid hP
      have Z4 := Lib.hid (Z.out.below b4)
      have D4 := Lib.hid (D.out.below b4)
      have B4 := Lib.hid (B0.out.trans (b4.mono B0.out.size))
      obtain ⟨pa, pc, hpv⟩ := hP.S.P.slice
      rw [natV_len] at hpv
      obtain ⟨pl, hpl⟩ : ∃ x, x = E.piv.length := ⟨_, rfl⟩
      rw [← hpl] at hpv
      have HPL := Lib.hid hpl
      subst hpv
      obtain ⟨F, hF0⟩ : ∃ x, x = E.fac := ⟨_, rfl⟩
      have HDP := Lib.hid (show dtP R R L = prodX oF F by unfold dtP; rw [HRE.out, hF0])
      have HFO := Lib.hid (show F.all okF = true by rw [hF0, List.all_eq_true]; exact EK.out.fac)
      have HFL := Lib.hid (show F.length ≤ 48 by rw [hF0]; have := EK.out.count; omega)
      have RF := Lib.hid (show RatsAt w4 fv F by rw [hF0]; exact P4.out.S.facs)
      clear hP hp b4 HX Z D B0 hpl hF0 d0 d1 d2
      have d0 := D4.out.c0
      have p3 := P4.out.D.c3
      by_cases hfew : pl < R
      · have HFW := Lib.hid (show dtFew R R L = true by unfold dtFew; rw [HRE.out, ← HPL.out, Int.toNat_natCast]; exact decide_eq_true hfew)
        have CO := fun W => impl_ratFromInt 0 W (by omega)
        rw [of_zero.1, of_zero.2] at CO
        go_wp2_with fail
        go_region
        go_wp2_with fail
        refine (CO w4.drew).mono ?_
        rintro e w6 ⟨x, y, rfl, o6, b6⟩
        replace o6 : OwnR w6 _ x zF.mag y zF.den := o6
        obtain ⟨va, vc, ve, vf, rfl, rfl⟩ := o6.slices
        have Z6 := Lib.hid (Z4.out.drew.below b6)
        have B6' := Lib.hid (B4.out.drew.trans (b6.mono B4.out.drew.size))
        have O6 := Lib.hid (show OwnR w6 w.heap.size (.slice va zF.mag.length vc) zF.mag (.slice ve zF.den.length vf) zF.den from o6.base B4.out.drew.size)
        clear o6 b6 Z4 B4 P4 D4 CO d0 p3
        have z0 := Z6.out.c0
        have z1 := Z6.out.c1
        have z2 := Z6.out.c2
        have x0 := Z6.out.f 0
        have x1 := Z6.out.f 1
        have x2 := Z6.out.f 2
        have V9 := Lib.hid (OwnR.set3 (b' := false) O6.out Z6.out (by decide) (.slice va zF.mag.length vc) (.slice ve zF.den.length vf))
        have B9 := Lib.hid (((B6'.out.setCell (p := ⟨w.heap.size + 1, 0, none⟩) (by simp) (.bool false)).setCell (p := ⟨w.heap.size + 1, 1, none⟩) (by simp) (.slice va zF.mag.length vc)).setCell (p := ⟨w.heap.size + 1, 2, none⟩) (by simp) (.slice ve zF.den.length vf))
        have D8 := Rx.set3 (b' := false) (v' := .slice va zF.mag.length vc) (d' := .slice ve zF.den.length vf) Z6.out
        have hc0 := D8.c0
        have hc1 := D8.c1
        have hc2 := D8.c2
        clear D8
        go_wp2_with fail
        obtain ⟨e1, e2⟩ := dt_few HDO.out HFW.out
        exact bodyPost_ret (v := .tuple #[.agg #[.bool false, .slice va zF.mag.length vc, .slice ve zF.den.length vf], .bool true]) (by simp [results, Tryz.results14, go_sem, hc0, hc1, hc2]) rfl (by rw [e1, e2]; exact ⟨_, _, rfl, V9.out, B9.out⟩)
      · have HFW := Lib.hid (show dtFew R R L = false by unfold dtFew; rw [HRE.out, ← HPL.out, Int.toNat_natCast]; exact decide_eq_false hfew)
        have CO := fun W => impl_ratFromInt 1 W (by omega)
        rw [of_one.1, of_one.2] at CO
        go_wp2_with fail
        go_region
        go_wp2_with fail
        refine (CO w4.drew).mono ?_
        rintro e w6 ⟨x, y, rfl, o6, b6⟩
        have B46 := Lib.hid ((Below.refl w4.heap.size w4).drew.trans (b6.mono (Nat.le_refl _)))
        have O6 := Lib.hid (show OwnR w6 w.heap.size x oF.mag y oF.den from o6.base B4.out.drew.size)
        clear o6 b6 CO d0 p3
        go_wp2_with fail
        refine (impl_start_yes oF.neg x oF.mag y oF.den w6 O6.out.row ok_one).mono ?_
        rintro e w7 ⟨tp, rfl, T7, htp, b7⟩
        have B47 := Lib.hid (B46.out.trans (b7.mono B46.out.size))
        have O7 := Lib.hid (O6.out.below b7)
        have HT7 := Lib.hid T7
        have Z7 := Lib.hid (Z4.out.below B47.out)
        have B7' := Lib.hid (B4.out.trans (B47.out.mono B4.out.size))
        have p4 := (P4.out.D.below B47.out).c4
        have htp4 : w4.heap.size ≤ tp := Nat.le_trans B46.out.size htp
        have hFD := Lib.hid (impl_foldM tp w.heap.size fv oF F x y w7 T7 O7.out B7'.out.size ok_one HFO.out (by have := HFL.out; omega) (fun W hW => RF.out.below (below_kept B47.out (Kept.of_grown hW) B47.out.size (fun k hk => by injection hk with hk; omega))))
        have hmf : ∀ (fn : Fn) (first cap : Array Value) (w : World), (Instr.makeFunc fn first cap).run Tryz.prog w = .ok (.func fn first cap) w := fun _ _ _ _ => rfl
        obtain ⟨T, hT⟩ : ∃ x, x = prodX oF F := ⟨_, rfl⟩
        rw [← hT] at hFD HDP
        clear hT T7 b7 O6
        go_wp2_with fail
        refine (hFD.out).mono ?_
        rintro e w8 ⟨x8, y8, rfl, o8, g8⟩
        obtain ⟨va, vc, ve, vf, rfl, rfl⟩ := o8.slices
        have Z8 := Lib.hid (Z7.out.kept g8 (by intro h; injection h with h; have := Z4.out.lt; omega))
        have B8 := Lib.hid (below_kept B7'.out (Kept.of_grown g8) B7'.out.size (fun k hk => by injection hk with hk; have := B4.out.size; omega))
        obtain ⟨t7, ht7'⟩ : ∃ x, x = w8.heap.size := ⟨_, rfl⟩
        have ht7 : t7 ≠ w.heap.size + 1 := by rw [ht7']; have := Z8.out.lt; omega
        obtain ⟨wr, hwr⟩ : ∃ x, x = w8.alloc (.cells #[.bool T.neg, .slice va T.mag.length vc, .slice ve T.den.length vf] 34) := ⟨_, rfl⟩
        have P := Lib.hid (show Rx wr t7 34 T.neg (.slice va T.mag.length vc) (.slice ve T.den.length vf) by rw [hwr, ht7']; exact Rx.new _ _ _ _ _)
        have V := Lib.hid (show OwnR wr w.heap.size (.slice va T.mag.length vc) T.mag (.slice ve T.den.length vf) T.den by rw [hwr]; exact o8.alloc _)
        have bw := (show Below w8.heap.size w8 wr by rw [hwr]; exact (Below.refl _ _).alloc (Nat.le_refl _) _)
        have Z := Lib.hid (Z8.out.below bw)
        have BB := Lib.hid (B8.out.trans (bw.mono B8.out.size))
        have HT7 := Lib.hid ht7'
        have HWR := Lib.hid hwr.symm
        clear hwr ht7' bw o8 g8 Z8 B8 Z7 B7' O7 hFD p4 P4 Z4 D4 B4 B46 B47 RF htp htp4
        go_upto_region 10 with (rw [HWR.out, ← HT7.out])
        try rw [HWR.out, ← HT7.out]
        have HS := Lib.hid (show ∀ W : World, Below wr.heap.size wr W → (W.cell? ⟨t7, 0, none⟩ = some (.bool T.neg) ∧ W.cell? ⟨t7, 1, none⟩ = some (.slice va T.mag.length vc) ∧ W.cell? ⟨t7, 2, none⟩ = some (.slice ve T.den.length vf)) from fun W hW => ⟨(P.out.below hW).c0, (P.out.below hW).c1, (P.out.below hW).c2⟩)
        have HBD := Lib.hid (fun W (hW : Below wr.heap.size wr W) => (impl_tooLarge T.neg _ T.mag _ T.den W (V.out.row.below hW)).mono (R' := fun e w' => e = .returned (.bool (decide (T.den.length = 0))) ∧ Below wr.heap.size wr w') (fun e w' ⟨he, hb⟩ => ⟨he, hW.trans (hb.mono hW.size)⟩))
        have HZ := Lib.hid (fun W (hW : Below wr.heap.size wr W) => Z.out.below hW)
        have c0 := P.out.c0
        have c1 := P.out.c1
        have c2 := P.out.c2
        go_wp2_with fail
        go_region_held3 (fun w' => w'.cell? ⟨t7, 0, none⟩ = some (.bool T.neg) ∧ w'.cell? ⟨t7, 1, none⟩ = some (.slice va T.mag.length vc) ∧ w'.cell? ⟨t7, 2, none⟩ = some (.slice ve T.den.length vf))
          (first | exact HS.out _ (by first | with_reducible exact Below.refl _ _ | with_reducible exact (Below.refl _ _).drew | with_reducible exact bb_a | fail) | exact ⟨(cell_far3 ht7 _ _ _).trans ((HS.out _ (by first | with_reducible exact Below.refl _ _ | with_reducible exact (Below.refl _ _).drew | with_reducible exact bb_a | fail)).1), (cell_far3 ht7 _ _ _).trans ((HS.out _ (by first | with_reducible exact Below.refl _ _ | with_reducible exact (Below.refl _ _).drew | with_reducible exact bb_a | fail)).2.1), (cell_far3 ht7 _ _ _).trans ((HS.out _ (by first | with_reducible exact Below.refl _ _ | with_reducible exact (Below.refl _ _).drew | with_reducible exact bb_a | fail)).2.2)⟩)
          (first
            | (go_at_call 63; refine (HBD.out _ (by first | with_reducible exact Below.refl _ _ | with_reducible exact (Below.refl _ _).drew | with_reducible exact bb_a | fail)).mono ?_; rintro ee w_a ⟨rfl, bb_a⟩; have Y_a := HZ.out _ bb_a; have y0 := Y_a.c0; have y1 := Y_a.c1; have y2 := Y_a.c2; have y3 := Y_a.f 0; have y4 := Y_a.f 1; have y5 := Y_a.f 2))
        all_goals (have V9 := Lib.hid (OwnR.set3 (b' := T.neg) (V.out.below bb_a) Y_a (by decide) (.slice va T.mag.length vc) (.slice ve T.den.length vf)))
        all_goals (have B9 := Lib.hid ((((BB.out.trans (bb_a.mono BB.out.size)).setCell (p := ⟨w.heap.size + 1, 0, none⟩) (by simp) (.bool T.neg)).setCell (p := ⟨w.heap.size + 1, 1, none⟩) (by simp) (.slice va T.mag.length vc)).setCell (p := ⟨w.heap.size + 1, 2, none⟩) (by simp) (.slice ve T.den.length vf)))
        all_goals (have D8 := Rx.set3 (b' := T.neg) (v' := .slice va T.mag.length vc) (d' := .slice ve T.den.length vf) Y_a)
        all_goals (have hc0 := D8.c0; have hc1 := D8.c1; have hc2 := D8.c2)
        all_goals clear D8
        all_goals go_wp2_with fail
        all_goals obtain ⟨e1, e2⟩ := dt_full HDO.out HFW.out
        all_goals rw [HDP.out] at e1 e2
        all_goals exact bodyPost_ret (v := .tuple #[.agg #[.bool T.neg, .slice va T.mag.length vc, .slice ve T.den.length vf], .bool (!(decide (T.den.length = 0)))]) (by simp [results, Tryz.results14, go_sem, hc0, hc1, hc2]) rfl (by rw [e1, e2]; exact ⟨_, _, rfl, V9.out, B9.out⟩)

end Go.Proofs.YtlepgkkpopjgoaaGreat
