/- Matp: MatAdd MatApp MatMul MatProd. -/
import Derived.Test.YtojklmckjebplaaMatx
import Derived.Test.YtojklmckjebplaaVecx
/-! MatAdd -/
namespace Go.Proofs.Ytojklmckjebplaa
set_option maxRecDepth 100000
set_option linter.unusedVariables false
set_option linter.unusedSimpArgs false
open Go.RowKit Go.WideShapes Go.ChangeShapes
set_option linter.unusedVariables false
set_option linter.unusedSimpArgs false

set_option maxRecDepth 100000 in
set_option maxHeartbeats 1000000 in
theorem spec_matDone (r c : Int) (v : Value) (L : List Fr) (w : World) (h : RatsAt w v L) :
    Calls Try.prog 77 #[.agg #[.int .i64 r, .int .i64 c, v]] w fun e w' => e = .returned (.tuple #[if fineV L then .agg #[.int .i64 r, .int .i64 c, v] else .agg #[.int .i64 0, .int .i64 0, .slice none 0 0], .bool (fineV L)]) ∧ Below w.heap.size w w' := by
  obtain ⟨a, cap, rfl, hc, hm, hr⟩ := h
  have HR := Lib.hid (show RatsAt w (.slice a L.length cap) L from ⟨a, cap, rfl, hc, hm, hr⟩)
  clear hc hm hr
  obtain ⟨n, hnn⟩ : ∃ n, L.length = n := ⟨_, rfl⟩
  rw [hnn] at HR ⊢
  clear hnn
  cases q0 : fineV L with
  | true =>
    go_enter Try.func77, Try.ntmps77
    go_wp2_with fail
    obtain ⟨W0, hW0⟩ : ∃ x, x = (w.alloc (.cells #[.int .i64 r, .int .i64 c, .slice a n cap] 25)).alloc (.cells #[.int .i64 0, .int .i64 0, .slice none 0 0] 25) := ⟨_, rfl⟩
    have D := Lib.hid (show B3 W0 w.heap.size 25 (.int .i64 r) (.int .i64 c) (.slice a n cap) by rw [hW0]; exact (B3.new _ _ _ _ _).alloc _)
    have Z := Lib.hid (show B3 W0 (w.heap.size + 1) 25 (.int .i64 0) (.int .i64 0) (.slice none 0 0) by rw [hW0]; exact b3_at (B3.new _ _ _ _ _) (by simp))
    have B0 := Lib.hid (show Below w.heap.size w W0 by rw [hW0]; exact ((Below.refl _ _).alloc (Nat.le_refl _) _).alloc (by simp) _)
    rw [← hW0]
    clear hW0
    try (have d2 := D.out.c2; go_wp2_with fail)
    have T := spec_fine _ L W0 (HR.out.below B0.out)
    rw [q0] at T
    refine T.mono ?_
    rintro e w1 ⟨rfl, b1⟩
    replace D := Lib.hid (D.out.below b1)
    replace Z := Lib.hid (Z.out.below b1)
    replace B0 := Lib.hid (B0.out.trans (b1.mono B0.out.size))
    clear b1 T
    have d0 := D.out.c0
    have d1 := D.out.c1
    have d2 := D.out.c2
    have z0 := Z.out.c0
    have z1 := Z.out.c1
    have z2 := Z.out.c2
    have x0 := Z.out.f 0
    have x1 := Z.out.f 1
    have x2 := Z.out.f 2
    have B9 := Lib.hid (((B0.out.setCell (p := ⟨w.heap.size + 1, 0, none⟩) (by simp) (.int .i64 r)).setCell (p := ⟨w.heap.size + 1, 1, none⟩) (by simp) (.int .i64 c)).setCell (p := ⟨w.heap.size + 1, 2, none⟩) (by simp) (.slice a n cap))
    have D8 := Z.out.set3 (.int .i64 r) (.int .i64 c) (.slice a n cap)
    have hc0 := D8.c0; have hc1 := D8.c1; have hc2 := D8.c2
    clear D8
    go_wp2_with fail
    exact bodyPost_ret (v := .tuple #[.agg #[(.int .i64 r), (.int .i64 c), (.slice a n cap)], .bool true]) (by simp [results, Try.results77, go_sem, hc0, hc1, hc2]) rfl ⟨rfl, B9.out⟩
  | false =>
    go_enter Try.func77, Try.ntmps77
    go_wp2_with fail
    obtain ⟨W0, hW0⟩ : ∃ x, x = (w.alloc (.cells #[.int .i64 r, .int .i64 c, .slice a n cap] 25)).alloc (.cells #[.int .i64 0, .int .i64 0, .slice none 0 0] 25) := ⟨_, rfl⟩
    have D := Lib.hid (show B3 W0 w.heap.size 25 (.int .i64 r) (.int .i64 c) (.slice a n cap) by rw [hW0]; exact (B3.new _ _ _ _ _).alloc _)
    have Z := Lib.hid (show B3 W0 (w.heap.size + 1) 25 (.int .i64 0) (.int .i64 0) (.slice none 0 0) by rw [hW0]; exact b3_at (B3.new _ _ _ _ _) (by simp))
    have B0 := Lib.hid (show Below w.heap.size w W0 by rw [hW0]; exact ((Below.refl _ _).alloc (Nat.le_refl _) _).alloc (by simp) _)
    rw [← hW0]
    clear hW0
    try (have d2 := D.out.c2; go_wp2_with fail)
    have T := spec_fine _ L W0 (HR.out.below B0.out)
    rw [q0] at T
    refine T.mono ?_
    rintro e w1 ⟨rfl, b1⟩
    replace D := Lib.hid (D.out.below b1)
    replace Z := Lib.hid (Z.out.below b1)
    replace B0 := Lib.hid (B0.out.trans (b1.mono B0.out.size))
    clear b1 T
    have d0 := D.out.c0
    have d1 := D.out.c1
    have d2 := D.out.c2
    have z0 := Z.out.c0
    have z1 := Z.out.c1
    have z2 := Z.out.c2
    have x0 := Z.out.f 0
    have x1 := Z.out.f 1
    have x2 := Z.out.f 2
    have B9 := Lib.hid (((B0.out.setCell (p := ⟨w.heap.size + 1, 0, none⟩) (by simp) (.int .i64 0)).setCell (p := ⟨w.heap.size + 1, 1, none⟩) (by simp) (.int .i64 0)).setCell (p := ⟨w.heap.size + 1, 2, none⟩) (by simp) (.slice none 0 0))
    have D8 := Z.out.set3 (.int .i64 0) (.int .i64 0) (.slice none 0 0)
    have hc0 := D8.c0; have hc1 := D8.c1; have hc2 := D8.c2
    clear D8
    go_wp2_with fail
    exact bodyPost_ret (v := .tuple #[.agg #[(.int .i64 0), (.int .i64 0), (.slice none 0 0)], .bool false]) (by simp [results, Try.results77, go_sem, hc0, hc1, hc2]) rfl ⟨rfl, B9.out⟩

def fitM (ok : Bool → List Int → List Int → Bool) (r c : Int) (L : List Fr) (r' c' : Int) (L' : List Fr) : Bool := matB ok r c L && (matB ok r' c' L' && ((r == r') && (c == c')))
def adB (ok : Bool → List Int → List Int → Bool) (add : Fr → Fr → Fr) (r c : Int) (L : List Fr) (r' c' : Int) (L' : List Fr) : Bool := fitM ok r c L r' c' L' && fineV (zipF add L L')
def adL (ok : Bool → List Int → List Int → Bool) (add : Fr → Fr → Fr) (r c : Int) (L : List Fr) (r' c' : Int) (L' : List Fr) : List Fr := if adB ok add r c L r' c' L' then zipF add L L' else []
def adR (ok : Bool → List Int → List Int → Bool) (add : Fr → Fr → Fr) (r c : Int) (L : List Fr) (r' c' : Int) (L' : List Fr) : Int := if adB ok add r c L r' c' L' then r else 0
def adC (ok : Bool → List Int → List Int → Bool) (add : Fr → Fr → Fr) (r c : Int) (L : List Fr) (r' c' : Int) (L' : List Fr) : Int := if adB ok add r c L r' c' L' then c else 0
theorem ad_no {ok : Bool → List Int → List Int → Bool} {add : Fr → Fr → Fr} {r c : Int} {L : List Fr} {r' c' : Int} {L' : List Fr} (h : adB ok add r c L r' c' L' = false) :
    adL ok add r c L r' c' L' = [] ∧ adR ok add r c L r' c' L' = 0 ∧ adC ok add r c L r' c' L' = 0 := by unfold adL adR adC; rw [h]; exact ⟨rfl, rfl, rfl⟩
theorem ad_yes {ok : Bool → List Int → List Int → Bool} {add : Fr → Fr → Fr} {r c : Int} {L : List Fr} {r' c' : Int} {L' : List Fr} (h : adB ok add r c L r' c' L' = true) :
    adL ok add r c L r' c' L' = zipF add L L' ∧ adR ok add r c L r' c' L' = r ∧ adC ok add r c L r' c' L' = c := by unfold adL adR adC; rw [h]; exact ⟨rfl, rfl, rfl⟩

set_option maxRecDepth 100000 in
set_option maxHeartbeats 4000000 in
theorem spec_addMatrices (ok : Bool → List Int → List Int → Bool) (add : Fr → Fr → Fr)
    (HOK : ∀ b v zs d ds w, RowR w v zs d ds → Calls Try.prog 61 #[.agg #[.bool b, v, d]] w fun r w' => r = .returned (.bool (ok b zs ds)) ∧ Below w.heap.size w w')
    (HADD : ∀ (f0 f1 : Fr), ok f0.neg f0.mag f0.den = true → ok f1.neg f1.mag f1.den = true → ∀ v d v' d' w, RowR w v f0.mag d f0.den → RowR w v' f1.mag d' f1.den → Calls Try.prog 76 #[.agg #[.bool f0.neg, v, d], .agg #[.bool f1.neg, v', d']] w fun r w' => ∃ x y, r = .returned (.agg #[.bool (add f0 f1).neg, x, y]) ∧ OwnR w' w.heap.size x (add f0 f1).mag y (add f0 f1).den ∧ Below w.heap.size w w')
    (r c : Int) (v : Value) (L : List Fr) (r' c' : Int) (v' : Value) (L' : List Fr) (w : World) (h : RatsAt w v L) (h' : RatsAt w v' L') :
    Calls Try.prog 45 #[.agg #[.int .i64 r, .int .i64 c, v], .agg #[.int .i64 r', .int .i64 c', v']] w fun e w' => ∃ u xs, e = .returned (.tuple #[.agg #[.int .i64 (adR ok add r c L r' c' L'), .int .i64 (adC ok add r c L r' c' L'), u], .bool (adB ok add r c L r' c' L')]) ∧ OwnV w' w.heap.size u (adL ok add r c L r' c' L') xs ∧ Below w.heap.size w w' := by
  have HR := Lib.hid h
  have HR' := Lib.hid h'
  obtain ⟨a, cap, rfl, hc, hm, hr⟩ := h
  obtain ⟨a', cap', rfl, hc', hm', hr'⟩ := h'
  have RA := Lib.hid hr
  have RB := Lib.hid hr'
  unfold maxLen at hm hm'
  clear hr hr'
  obtain ⟨n, hnn⟩ : ∃ n, L.length = n := ⟨_, rfl⟩
  obtain ⟨n', hnn'⟩ : ∃ n, L'.length = n := ⟨_, rfl⟩
  rw [hnn] at hc HR ⊢
  rw [hnn'] at hc' HR' ⊢
  have HN := Lib.hid hnn
  have HN' := Lib.hid hnn'
  clear hnn hnn'
  cases q0 : matB ok r c L with
  | false =>
    have HF := (show adB ok add r c L r' c' L' = false by unfold adB fitM; rw [q0]; rfl)
    rw [HF, (ad_no HF).1, (ad_no HF).2.1, (ad_no HF).2.2]
    clear HF
    go_enter Try.func45, Try.ntmps45
    go_wp2_with fail
    obtain ⟨W0, hW0⟩ : ∃ x, x = ((w.alloc (.cells #[.int .i64 r, .int .i64 c, .slice a n cap] 25)).alloc (.cells #[.int .i64 r', .int .i64 c', .slice a' n' cap'] 25)).alloc (.cells #[.int .i64 0, .int .i64 0, .slice none 0 0] 25) := ⟨_, rfl⟩
    have D := Lib.hid (show B3 W0 w.heap.size 25 (.int .i64 r) (.int .i64 c) (.slice a n cap) by rw [hW0]; exact ((B3.new _ _ _ _ _).alloc _).alloc _)
    have E := Lib.hid (show B3 W0 (w.heap.size + 1) 25 (.int .i64 r') (.int .i64 c') (.slice a' n' cap') by rw [hW0]; exact b3_at ((B3.new _ _ _ _ _).alloc _) (by simp))
    have Z := Lib.hid (show B3 W0 (w.heap.size + 1 + 1) 25 (.int .i64 0) (.int .i64 0) (.slice none 0 0) by rw [hW0]; exact b3_at (B3.new _ _ _ _ _) (by simp))
    have B0 := Lib.hid (show Below w.heap.size w W0 by rw [hW0]; exact (((Below.refl _ _).alloc (Nat.le_refl _) _).alloc (by simp) _).alloc (by simp; omega) _)
    rw [← hW0]
    clear hW0
    try (have d0 := D.out.c0; have d1 := D.out.c1; have d2 := D.out.c2; go_wp2_with fail)
    have T := spec_matrixOk ok HOK r c _ L W0 (HR.out.below B0.out)
    rw [q0] at T
    refine T.mono ?_
    rintro e w1 ⟨rfl, b1⟩
    replace D := Lib.hid (D.out.below b1)
    replace E := Lib.hid (E.out.below b1)
    replace Z := Lib.hid (Z.out.below b1)
    replace B0 := Lib.hid (B0.out.trans (b1.mono B0.out.size))
    clear b1 T
    have z0 := Z.out.c0
    have z1 := Z.out.c1
    have z2 := Z.out.c2
    have x0 := Z.out.f 0
    have x1 := Z.out.f 1
    have x2 := Z.out.f 2
    have V9 := Lib.hid (OwnV.set3_b3 (OwnV.nil _ w.heap.size) Z.out (by decide) (by decide) (.int .i64 0) (.int .i64 0) (.slice none 0 0))
    have B9 := Lib.hid (((B0.out.setCell (p := ⟨w.heap.size + 1 + 1, 0, none⟩) (by simp; omega) (.int .i64 0)).setCell (p := ⟨w.heap.size + 1 + 1, 1, none⟩) (by simp; omega) (.int .i64 0)).setCell (p := ⟨w.heap.size + 1 + 1, 2, none⟩) (by simp; omega) (.slice none 0 0))
    have D8 := Z.out.set3 (.int .i64 0) (.int .i64 0) (.slice none 0 0)
    have hc0 := D8.c0; have hc1 := D8.c1; have hc2 := D8.c2
    clear D8
    go_wp2_with fail
    exact bodyPost_ret (v := .tuple #[.agg #[(.int .i64 0), (.int .i64 0), (.slice none 0 0)], .bool false]) (by simp [results, Try.results45, go_sem, hc0, hc1, hc2]) rfl ⟨_, _, rfl, V9.out, B9.out⟩
  | true =>
  cases q1 : matB ok r' c' L' with
  | false =>
    have HF := (show adB ok add r c L r' c' L' = false by unfold adB fitM; rw [q0, q1]; rfl)
    rw [HF, (ad_no HF).1, (ad_no HF).2.1, (ad_no HF).2.2]
    clear HF
    go_enter Try.func45, Try.ntmps45
    go_wp2_with fail
    obtain ⟨W0, hW0⟩ : ∃ x, x = ((w.alloc (.cells #[.int .i64 r, .int .i64 c, .slice a n cap] 25)).alloc (.cells #[.int .i64 r', .int .i64 c', .slice a' n' cap'] 25)).alloc (.cells #[.int .i64 0, .int .i64 0, .slice none 0 0] 25) := ⟨_, rfl⟩
    have D := Lib.hid (show B3 W0 w.heap.size 25 (.int .i64 r) (.int .i64 c) (.slice a n cap) by rw [hW0]; exact ((B3.new _ _ _ _ _).alloc _).alloc _)
    have E := Lib.hid (show B3 W0 (w.heap.size + 1) 25 (.int .i64 r') (.int .i64 c') (.slice a' n' cap') by rw [hW0]; exact b3_at ((B3.new _ _ _ _ _).alloc _) (by simp))
    have Z := Lib.hid (show B3 W0 (w.heap.size + 1 + 1) 25 (.int .i64 0) (.int .i64 0) (.slice none 0 0) by rw [hW0]; exact b3_at (B3.new _ _ _ _ _) (by simp))
    have B0 := Lib.hid (show Below w.heap.size w W0 by rw [hW0]; exact (((Below.refl _ _).alloc (Nat.le_refl _) _).alloc (by simp) _).alloc (by simp; omega) _)
    rw [← hW0]
    clear hW0
    try (have d0 := D.out.c0; have d1 := D.out.c1; have d2 := D.out.c2; go_wp2_with fail)
    have T := spec_matrixOk ok HOK r c _ L W0 (HR.out.below B0.out)
    rw [q0] at T
    refine T.mono ?_
    rintro e w1 ⟨rfl, b1⟩
    replace D := Lib.hid (D.out.below b1)
    replace E := Lib.hid (E.out.below b1)
    replace Z := Lib.hid (Z.out.below b1)
    replace B0 := Lib.hid (B0.out.trans (b1.mono B0.out.size))
    clear b1 T
    have e0 := E.out.c0
    have e1 := E.out.c1
    have e2 := E.out.c2
    go_wp2_with fail
    clear e0 e1 e2
    have T := spec_matrixOk ok HOK r' c' _ L' w1 (HR'.out.below B0.out)
    rw [q1] at T
    refine T.mono ?_
    rintro e w2 ⟨rfl, b1⟩
    replace D := Lib.hid (D.out.below b1)
    replace E := Lib.hid (E.out.below b1)
    replace Z := Lib.hid (Z.out.below b1)
    replace B0 := Lib.hid (B0.out.trans (b1.mono B0.out.size))
    clear b1 T
    have d0 := D.out.c0
    have d1 := D.out.c1
    have d2 := D.out.c2
    have e0 := E.out.c0
    have e1 := E.out.c1
    have e2 := E.out.c2
    have z0 := Z.out.c0
    have z1 := Z.out.c1
    have z2 := Z.out.c2
    have x0 := Z.out.f 0
    have x1 := Z.out.f 1
    have x2 := Z.out.f 2
    have V9 := Lib.hid (OwnV.set3_b3 (OwnV.nil _ w.heap.size) Z.out (by decide) (by decide) (.int .i64 0) (.int .i64 0) (.slice none 0 0))
    have B9 := Lib.hid (((B0.out.setCell (p := ⟨w.heap.size + 1 + 1, 0, none⟩) (by simp; omega) (.int .i64 0)).setCell (p := ⟨w.heap.size + 1 + 1, 1, none⟩) (by simp; omega) (.int .i64 0)).setCell (p := ⟨w.heap.size + 1 + 1, 2, none⟩) (by simp; omega) (.slice none 0 0))
    have D8 := Z.out.set3 (.int .i64 0) (.int .i64 0) (.slice none 0 0)
    have hc0 := D8.c0; have hc1 := D8.c1; have hc2 := D8.c2
    clear D8
    go_wp2_with fail
    exact bodyPost_ret (v := .tuple #[.agg #[(.int .i64 0), (.int .i64 0), (.slice none 0 0)], .bool false]) (by simp [results, Try.results45, go_sem, hc0, hc1, hc2]) rfl ⟨_, _, rfl, V9.out, B9.out⟩
  | true =>
  by_cases q2 : r = r'
  rotate_left
  · have hne : (r == r') = false := by rw [beq_eq_false_iff_ne]; exact q2
    have hne2 : (r != r') = true := by unfold bne; rw [hne]; rfl
    have HF := (show adB ok add r c L r' c' L' = false by unfold adB fitM; rw [q0, q1, hne]; rfl)
    rw [HF, (ad_no HF).1, (ad_no HF).2.1, (ad_no HF).2.2]
    clear HF
    go_enter Try.func45, Try.ntmps45
    go_wp2_with fail
    obtain ⟨W0, hW0⟩ : ∃ x, x = ((w.alloc (.cells #[.int .i64 r, .int .i64 c, .slice a n cap] 25)).alloc (.cells #[.int .i64 r', .int .i64 c', .slice a' n' cap'] 25)).alloc (.cells #[.int .i64 0, .int .i64 0, .slice none 0 0] 25) := ⟨_, rfl⟩
    have D := Lib.hid (show B3 W0 w.heap.size 25 (.int .i64 r) (.int .i64 c) (.slice a n cap) by rw [hW0]; exact ((B3.new _ _ _ _ _).alloc _).alloc _)
    have E := Lib.hid (show B3 W0 (w.heap.size + 1) 25 (.int .i64 r') (.int .i64 c') (.slice a' n' cap') by rw [hW0]; exact b3_at ((B3.new _ _ _ _ _).alloc _) (by simp))
    have Z := Lib.hid (show B3 W0 (w.heap.size + 1 + 1) 25 (.int .i64 0) (.int .i64 0) (.slice none 0 0) by rw [hW0]; exact b3_at (B3.new _ _ _ _ _) (by simp))
    have B0 := Lib.hid (show Below w.heap.size w W0 by rw [hW0]; exact (((Below.refl _ _).alloc (Nat.le_refl _) _).alloc (by simp) _).alloc (by simp; omega) _)
    rw [← hW0]
    clear hW0
    try (have d0 := D.out.c0; have d1 := D.out.c1; have d2 := D.out.c2; go_wp2_with fail)
    have T := spec_matrixOk ok HOK r c _ L W0 (HR.out.below B0.out)
    rw [q0] at T
    refine T.mono ?_
    rintro e w1 ⟨rfl, b1⟩
    replace D := Lib.hid (D.out.below b1)
    replace E := Lib.hid (E.out.below b1)
    replace Z := Lib.hid (Z.out.below b1)
    replace B0 := Lib.hid (B0.out.trans (b1.mono B0.out.size))
    clear b1 T
    have e0 := E.out.c0
    have e1 := E.out.c1
    have e2 := E.out.c2
    go_wp2_with fail
    clear e0 e1 e2
    have T := spec_matrixOk ok HOK r' c' _ L' w1 (HR'.out.below B0.out)
    rw [q1] at T
    refine T.mono ?_
    rintro e w2 ⟨rfl, b1⟩
    replace D := Lib.hid (D.out.below b1)
    replace E := Lib.hid (E.out.below b1)
    replace Z := Lib.hid (Z.out.below b1)
    replace B0 := Lib.hid (B0.out.trans (b1.mono B0.out.size))
    clear b1 T
    have d0 := D.out.c0
    have d1 := D.out.c1
    have d2 := D.out.c2
    have e0 := E.out.c0
    have e1 := E.out.c1
    have e2 := E.out.c2
    have z0 := Z.out.c0
    have z1 := Z.out.c1
    have z2 := Z.out.c2
    have x0 := Z.out.f 0
    have x1 := Z.out.f 1
    have x2 := Z.out.f 2
    have V9 := Lib.hid (OwnV.set3_b3 (OwnV.nil _ w.heap.size) Z.out (by decide) (by decide) (.int .i64 0) (.int .i64 0) (.slice none 0 0))
    have B9 := Lib.hid (((B0.out.setCell (p := ⟨w.heap.size + 1 + 1, 0, none⟩) (by simp; omega) (.int .i64 0)).setCell (p := ⟨w.heap.size + 1 + 1, 1, none⟩) (by simp; omega) (.int .i64 0)).setCell (p := ⟨w.heap.size + 1 + 1, 2, none⟩) (by simp; omega) (.slice none 0 0))
    have D8 := Z.out.set3 (.int .i64 0) (.int .i64 0) (.slice none 0 0)
    have hc0 := D8.c0; have hc1 := D8.c1; have hc2 := D8.c2
    clear D8
    go_wp2_with fail
    exact bodyPost_ret (v := .tuple #[.agg #[(.int .i64 0), (.int .i64 0), (.slice none 0 0)], .bool false]) (by simp [results, Try.results45, go_sem, hc0, hc1, hc2]) rfl ⟨_, _, rfl, V9.out, B9.out⟩
  subst q2
  by_cases q3 : c = c'
  rotate_left
  · have hne : (c == c') = false := by rw [beq_eq_false_iff_ne]; exact q3
    have hne2 : (c != c') = true := by unfold bne; rw [hne]; rfl
    have HF := (show adB ok add r c L r c' L' = false by unfold adB fitM; rw [q0, q1, hne]; simp)
    rw [HF, (ad_no HF).1, (ad_no HF).2.1, (ad_no HF).2.2]
    clear HF
    go_enter Try.func45, Try.ntmps45
    go_wp2_with fail
    obtain ⟨W0, hW0⟩ : ∃ x, x = ((w.alloc (.cells #[.int .i64 r, .int .i64 c, .slice a n cap] 25)).alloc (.cells #[.int .i64 r, .int .i64 c', .slice a' n' cap'] 25)).alloc (.cells #[.int .i64 0, .int .i64 0, .slice none 0 0] 25) := ⟨_, rfl⟩
    have D := Lib.hid (show B3 W0 w.heap.size 25 (.int .i64 r) (.int .i64 c) (.slice a n cap) by rw [hW0]; exact ((B3.new _ _ _ _ _).alloc _).alloc _)
    have E := Lib.hid (show B3 W0 (w.heap.size + 1) 25 (.int .i64 r) (.int .i64 c') (.slice a' n' cap') by rw [hW0]; exact b3_at ((B3.new _ _ _ _ _).alloc _) (by simp))
    have Z := Lib.hid (show B3 W0 (w.heap.size + 1 + 1) 25 (.int .i64 0) (.int .i64 0) (.slice none 0 0) by rw [hW0]; exact b3_at (B3.new _ _ _ _ _) (by simp))
    have B0 := Lib.hid (show Below w.heap.size w W0 by rw [hW0]; exact (((Below.refl _ _).alloc (Nat.le_refl _) _).alloc (by simp) _).alloc (by simp; omega) _)
    rw [← hW0]
    clear hW0
    try (have d0 := D.out.c0; have d1 := D.out.c1; have d2 := D.out.c2; go_wp2_with fail)
    have T := spec_matrixOk ok HOK r c _ L W0 (HR.out.below B0.out)
    rw [q0] at T
    refine T.mono ?_
    rintro e w1 ⟨rfl, b1⟩
    replace D := Lib.hid (D.out.below b1)
    replace E := Lib.hid (E.out.below b1)
    replace Z := Lib.hid (Z.out.below b1)
    replace B0 := Lib.hid (B0.out.trans (b1.mono B0.out.size))
    clear b1 T
    have e0 := E.out.c0
    have e1 := E.out.c1
    have e2 := E.out.c2
    go_wp2_with fail
    clear e0 e1 e2
    have T := spec_matrixOk ok HOK r c' _ L' w1 (HR'.out.below B0.out)
    rw [q1] at T
    refine T.mono ?_
    rintro e w2 ⟨rfl, b1⟩
    replace D := Lib.hid (D.out.below b1)
    replace E := Lib.hid (E.out.below b1)
    replace Z := Lib.hid (Z.out.below b1)
    replace B0 := Lib.hid (B0.out.trans (b1.mono B0.out.size))
    clear b1 T
    have d0 := D.out.c0
    have d1 := D.out.c1
    have d2 := D.out.c2
    have e0 := E.out.c0
    have e1 := E.out.c1
    have e2 := E.out.c2
    have z0 := Z.out.c0
    have z1 := Z.out.c1
    have z2 := Z.out.c2
    have x0 := Z.out.f 0
    have x1 := Z.out.f 1
    have x2 := Z.out.f 2
    have V9 := Lib.hid (OwnV.set3_b3 (OwnV.nil _ w.heap.size) Z.out (by decide) (by decide) (.int .i64 0) (.int .i64 0) (.slice none 0 0))
    have B9 := Lib.hid (((B0.out.setCell (p := ⟨w.heap.size + 1 + 1, 0, none⟩) (by simp; omega) (.int .i64 0)).setCell (p := ⟨w.heap.size + 1 + 1, 1, none⟩) (by simp; omega) (.int .i64 0)).setCell (p := ⟨w.heap.size + 1 + 1, 2, none⟩) (by simp; omega) (.slice none 0 0))
    have D8 := Z.out.set3 (.int .i64 0) (.int .i64 0) (.slice none 0 0)
    have hc0 := D8.c0; have hc1 := D8.c1; have hc2 := D8.c2
    clear D8
    go_wp2_with fail
    exact bodyPost_ret (v := .tuple #[.agg #[(.int .i64 0), (.int .i64 0), (.slice none 0 0)], .bool false]) (by simp [results, Try.results45, go_sem, hc0, hc1, hc2]) rfl ⟨_, _, rfl, V9.out, B9.out⟩
  subst q3
  have HF := Lib.hid (show adB ok add r c L r c L' = fineV (zipF add L L') by unfold adB fitM; rw [q0, q1, beq_self_eq_true, beq_self_eq_true]; rfl)
  obtain ⟨R, C, rfl, rfl, hR, hC, hLn, hRC, hE⟩ := matB_parts q0
  obtain ⟨R2, C2, e1, e2, _, _, hLn', _, hE'⟩ := matB_parts q1
  obtain rfl : R2 = R := by omega
  obtain rfl : C2 = C := by omega
  obtain rfl : n' = n := by rw [← HN'.out, ← HN.out, hLn, hLn']
  have hn : n' ≤ 576 := by rw [← HN.out]; omega
  have HE := Lib.hid hE
  have HE' := Lib.hid hE'
  clear hLn hLn' hRC hE hE' e1 e2
  obtain ⟨n, hn9⟩ : ∃ n, n = n' := ⟨_, rfl⟩
  subst hn9
  obtain ⟨r, hr9⟩ : ∃ r : Int, r = (R2 : Int) := ⟨_, rfl⟩
  obtain ⟨c, hc9⟩ : ∃ c : Int, c = (C2 : Int) := ⟨_, rfl⟩
  rw [← hr9, ← hc9] at q0 q1 HF ⊢
  clear hr9 hc9
  obtain ⟨ZB, hZB⟩ : ∃ x, x = adB ok add r c L r c L' := ⟨_, rfl⟩
  have HZ := Lib.hid (show ZB = fineV (zipF add L L') by rw [hZB]; exact HF.out)
  have HZL := Lib.hid (show ∀ b, ZB = b → adL ok add r c L r c L' = (if b then zipF add L L' else []) ∧ adR ok add r c L r c L' = (if b then r else 0) ∧ adC ok add r c L r c L' = (if b then c else 0) by intro b hb; unfold adL adR adC; rw [← hZB, hb]; exact ⟨rfl, rfl, rfl⟩)
  rw [← hZB]
  clear hZB HF
  obtain ⟨ZL, hZL⟩ : ∃ x, x = adL ok add r c L r c L' := ⟨_, rfl⟩
  obtain ⟨ZR, hZR⟩ : ∃ x, x = adR ok add r c L r c L' := ⟨_, rfl⟩
  obtain ⟨ZC, hZC⟩ : ∃ x, x = adC ok add r c L r c L' := ⟨_, rfl⟩
  rw [← hZL, ← hZR, ← hZC] at HZL ⊢
  clear hZL hZR hZC
  go_enter Try.func45, Try.ntmps45
  go_wp2_with fail
  obtain ⟨W0, hW0⟩ : ∃ x, x = ((w.alloc (.cells #[.int .i64 r, .int .i64 c, .slice a n cap] 25)).alloc (.cells #[.int .i64 r, .int .i64 c, .slice a' n cap'] 25)).alloc (.cells #[.int .i64 0, .int .i64 0, .slice none 0 0] 25) := ⟨_, rfl⟩
  have D := Lib.hid (show B3 W0 w.heap.size 25 (.int .i64 r) (.int .i64 c) (.slice a n cap) by rw [hW0]; exact ((B3.new _ _ _ _ _).alloc _).alloc _)
  have E := Lib.hid (show B3 W0 (w.heap.size + 1) 25 (.int .i64 r) (.int .i64 c) (.slice a' n cap') by rw [hW0]; exact b3_at ((B3.new _ _ _ _ _).alloc _) (by simp))
  have Z := Lib.hid (show B3 W0 (w.heap.size + 1 + 1) 25 (.int .i64 0) (.int .i64 0) (.slice none 0 0) by rw [hW0]; exact b3_at (B3.new _ _ _ _ _) (by simp))
  have B0 := Lib.hid (show Below w.heap.size w W0 by rw [hW0]; exact (((Below.refl _ _).alloc (Nat.le_refl _) _).alloc (by simp) _).alloc (by simp; omega) _)
  rw [← hW0]
  clear hW0
  try (have d0 := D.out.c0; have d1 := D.out.c1; have d2 := D.out.c2; go_wp2_with fail)
  have T := spec_matrixOk ok HOK r c _ L W0 (HR.out.below B0.out)
  rw [q0] at T
  refine T.mono ?_
  rintro e w1 ⟨rfl, b1⟩
  replace D := Lib.hid (D.out.below b1)
  replace E := Lib.hid (E.out.below b1)
  replace Z := Lib.hid (Z.out.below b1)
  replace B0 := Lib.hid (B0.out.trans (b1.mono B0.out.size))
  clear b1 T
  have e0 := E.out.c0
  have e1 := E.out.c1
  have e2 := E.out.c2
  go_wp2_with fail
  clear e0 e1 e2
  have T := spec_matrixOk ok HOK r c _ L' w1 (HR'.out.below B0.out)
  rw [q1] at T
  refine T.mono ?_
  rintro e w2 ⟨rfl, b1⟩
  replace D := Lib.hid (D.out.below b1)
  replace E := Lib.hid (E.out.below b1)
  replace Z := Lib.hid (Z.out.below b1)
  replace B0 := Lib.hid (B0.out.trans (b1.mono B0.out.size))
  clear b1 T
  have d0 := D.out.c0
  have d1 := D.out.c1
  have d2 := D.out.c2
  have e0 := E.out.c0
  have e1 := E.out.c1
  have e2 := E.out.c2
  clear q0 q1
  have g2 := (D.out.alloc (.cells #[.int .i64 r, .int .i64 c, .slice none 0 0] 25)).c2
  go_wp2_with fail
  obtain ⟨pO, hpO⟩ : ∃ x, x = w2.heap.size := ⟨_, rfl⟩
  obtain ⟨W3, hW3⟩ : ∃ x, x = w2.alloc (.cells #[.int .i64 r, .int .i64 c, .slice none 0 0] 25) := ⟨_, rfl⟩
  have M0 := Lib.hid (show B3 W3 w.heap.size 25 (.int .i64 r) (.int .i64 c) (.slice a n cap) by rw [hW3]; exact D.out.alloc _)
  have N0 := Lib.hid (show B3 W3 (w.heap.size + 1) 25 (.int .i64 r) (.int .i64 c) (.slice a' n cap') by rw [hW3]; exact E.out.alloc _)
  have Y0 := Lib.hid (show B3 W3 (w.heap.size + 1 + 1) 25 (.int .i64 0) (.int .i64 0) (.slice none 0 0) by rw [hW3]; exact Z.out.alloc _)
  have O0 := Lib.hid (show B3 W3 pO 25 (.int .i64 r) (.int .i64 c) (.slice none 0 0) by rw [hW3, hpO]; exact B3.new _ _ _ _ _)
  have B3_ := Lib.hid (show Below w.heap.size w W3 by rw [hW3]; exact B0.out.alloc B0.out.size _)
  have PO := Lib.hid (show w.heap.size + 1 + 1 < pO by rw [hpO]; exact Z.out.lt)
  rw [← hW3, ← hpO]
  clear hW3 hpO D E Z B0 d0 d1 d2 e0 e1 e2 g2
  go_loopw [40] (fun iv wr => ∃ (k : Nat) (vo : Value) (xs : List (Value × Value)), k ≤ n ∧ iv = .int .i64 k ∧ Hid (B3 wr w.heap.size 25 (.int .i64 r) (.int .i64 c) (.slice a n cap)) ∧ Hid (B3 wr (w.heap.size + 1) 25 (.int .i64 r) (.int .i64 c) (.slice a' n cap')) ∧ Hid (B3 wr (w.heap.size + 1 + 1) 25 (.int .i64 0) (.int .i64 0) (.slice none 0 0)) ∧ Hid (B3 wr pO 25 (.int .i64 r) (.int .i64 c) vo) ∧ Hid (OwnV wr w.heap.size vo (zipF add (L.take k) (L'.take k)) xs) ∧ Hid (Below w.heap.size w wr)) (fun iv _ => n - (intOf iv).toNat)
  case atStart => exact ⟨0, .slice none 0 0, [], Nat.zero_le _, rfl, M0, N0, Y0, O0, Lib.hid (OwnV.nil _ _), B3_⟩
  case round =>
    clear M0 N0 Y0 O0 B3_
    obtain ⟨k, vo, xs, hk, rfl, M, N, Y, O, V, B⟩ := hrel
    by_cases hlt : k < n
    · have hlt0 : k < L.length := by rw [HN.out]; exact hlt
      have hlt1 : k < L'.length := by rw [HN'.out]; exact hlt
      obtain ⟨b, o, x, y, rfl, c0, c1, c2, hrr⟩ := RA.out k hlt0
      obtain ⟨b', o', x', y', rfl, e0, e1, e2, hss⟩ := RB.out k hlt1
      have d0 := (B.out.cell (World.block_lt_of_cell? w _ c0)).trans c0
      have d1 := (B.out.cell (World.block_lt_of_cell? w _ c1)).trans c1
      have d2 := (B.out.cell (World.block_lt_of_cell? w _ c2)).trans c2
      have f0 := (B.out.cell (World.block_lt_of_cell? w _ e0)).trans e0
      have f1 := (B.out.cell (World.block_lt_of_cell? w _ e1)).trans e1
      have f2 := (B.out.cell (World.block_lt_of_cell? w _ e2)).trans e2
      have RR := Lib.hid (hrr.below B.out)
      have SS := Lib.hid (hss.below B.out)
      obtain ⟨a1, r1, a2, r2, rfl, rfl, hz1, hz2⟩ := rowR_len hrr
      obtain ⟨a3, r3, a4, r4, rfl, rfl, hz3, hz4⟩ := rowR_len hss
      clear c0 c1 c2 RA hrr e0 e1 e2 RB hss
      have HQ := Lib.hid (And.intro (HE.out k hlt0) (HE'.out k hlt1))
      have HP := Lib.hid (zip_take (f := add) hlt0 hlt1)
      have HPL := Lib.hid (show (zipF add (L.take k) (L'.take k)).length ≤ 100000 from Nat.le_trans zip_len (by simp; omega))
      obtain ⟨f, hf⟩ : ∃ f, f = L[k]'hlt0 := ⟨_, rfl⟩
      obtain ⟨g, hg⟩ : ∃ g, g = L'[k]'hlt1 := ⟨_, rfl⟩
      obtain ⟨P, hP⟩ : ∃ P, P = zipF add (L.take k) (L'.take k) := ⟨_, rfl⟩
      obtain ⟨h, hh⟩ : ∃ h, h = add f g := ⟨_, rfl⟩
      rw [← hf, ← hg] at HQ HP
      rw [← hf] at d0 d1 d2 RR hz1 hz2
      rw [← hg] at f0 f1 f2 SS hz3 hz4
      rw [← hP] at HP HPL V
      rw [← hh] at HP
      clear hf hg hP hlt0 hlt1
      obtain ⟨wb, hwb⟩ : ∃ x, x = wr.alloc (.cells #[.bool f.neg, .slice a1 f.mag.length r1, .slice a2 f.den.length r2] 42) := ⟨_, rfl⟩
      obtain ⟨G, hG⟩ : ∃ x, x = wr.heap.size := ⟨_, rfl⟩
      have bA := Lib.hid (show Below wr.heap.size wr wb by rw [hwb]; exact (Below.refl wr.heap.size wr).alloc (Nat.le_refl _) _)
      have X := Lib.hid (show Rx wb G 42 f.neg (.slice a1 f.mag.length r1) (.slice a2 f.den.length r2) by rw [hwb, hG]; exact Rx.new _ _ _ _ _)
      have m2 := M.out.c2
      go_wp2_with fail
      rw [← hwb, ← hG]
      clear hwb hG m2 d0 d1 d2
      replace M := Lib.hid (M.out.below bA.out)
      replace N := Lib.hid (N.out.below bA.out)
      replace Y := Lib.hid (Y.out.below bA.out)
      replace O := Lib.hid (O.out.below bA.out)
      replace V := Lib.hid (V.out.below bA.out)
      replace B := Lib.hid (B.out.trans (bA.out.mono B.out.size))
      replace RR := Lib.hid (RR.out.below bA.out)
      replace SS := Lib.hid (SS.out.below bA.out)
      replace f0 := (bA.out.cell (World.block_lt_of_cell? _ _ f0)).trans f0
      replace f1 := (bA.out.cell (World.block_lt_of_cell? _ _ f1)).trans f1
      replace f2 := (bA.out.cell (World.block_lt_of_cell? _ _ f2)).trans f2
      clear bA
      have n2 := N.out.c2
      have x0 := X.out.c0
      have x1 := X.out.c1
      have x2 := X.out.c2
      have y2 := O.out.c2
      have y3 := O.out.f 2
      have HO := Lib.hid (fun W (hW : Below wb.heap.size wb W) => O.out.below hW)
      have BS := Lib.hid B.out.size
      have L9 := Lib.hid V.out.lt
      have HAT := Lib.hid (fun W (hW : Below wb.heap.size wb W) => (HADD f g HQ.out.1 HQ.out.2 _ _ _ _ W (RR.out.below hW) (SS.out.below hW)).mono (R' := fun e w' => ∃ x y, e = .returned (.agg #[.bool h.neg, x, y]) ∧ OwnR w' wb.heap.size x h.mag y h.den ∧ Below wb.heap.size wb w') (fun e w' ⟨x, y, he, hr, hb⟩ => ⟨x, y, by rw [hh]; exact he, by rw [hh]; exact hr.base hW.size, hW.trans (hb.mono hW.size)⟩))
      clear hh
      go_region_law (first
        | (have hbb := bb_c.size; have lr := O_c.out.lt; refine step_append_rat rfl _ _ rfl w.heap.size vo P xs rfl (by first | with_reducible exact (V.out.below bb_c).alloc _ | with_reducible exact ((V.out.below bb_c).alloc _).drew | fail) HPL.out (by have := BS.out; simp; omega) _ _ rfl h _ _ (by first | exact World.alloc_heap_new _ _ | fail) (OwnR.base (O_c.out.alloc _) BS.out) (fun i hi r r' h1 h2 => by have h3 := (L9.out r (.inr ⟨_, List.getElem_mem hi, h1⟩)).2; have h4 := (lr r' h2).1; omega) (fun r h2 h1 => by have h3 := (L9.out r (.inl h1)).2; have h4 := (lr r h2).1; omega) ?_; intro v_n w_n o_n g_n l_n; have VV := (V.out.below bb_c).alloc (.cells #[.bool h.neg, .slice a_c h.mag.length c_c, .slice e_c h.den.length f_c] 42); have O5 := ((HO.out _ bb_c).alloc (.cells #[.bool h.neg, .slice a_c h.mag.length c_c, .slice e_c h.den.length f_c] 42)).grown VV (by decide) (by decide) g_n; have s2 := O5.c2; have s3 := O5.f 2; obtain ⟨g9, c9, hv9⟩ := o_n.slice; subst hv9; rw [show (P ++ [h]).length = P.length + 1 from by simp] at o_n ⊢)
        | (go_simp; go_at_call 76; refine (HAT.out _ (by first | with_reducible exact Below.refl _ _ | with_reducible exact (Below.refl _ _).drew | fail)).mono ?_; rintro e w_c ⟨x_c, y_c, rfl, o_c, bb_c⟩; obtain ⟨a_c, c_c, e_c, f_c, rfl, rfl⟩ := o_c.slices; have O_c := Lib.hid o_c; have q2 := ((HO.out _ bb_c).alloc (.cells #[.bool h.neg, .slice a_c h.mag.length c_c, .slice e_c h.den.length f_c] 42)).c2; have Y9 := HO.out _ bb_c; have s2 := Y9.c2; have s3 := Y9.f 2)
        | fail)
      all_goals go_wp2_with fail
      all_goals exact ⟨⟨k + 1, _, _, by omega, by go_num, Lib.hid ((((M.out.below bb_c).alloc _).grown VV (by decide) (by decide) g_n).far (by have := PO.out; omega) _), Lib.hid ((((N.out.below bb_c).alloc _).grown VV (by decide) (by decide) g_n).far (by have := PO.out; omega) _), Lib.hid ((((Y.out.below bb_c).alloc _).grown VV (by decide) (by decide) g_n).far (by have := PO.out; omega) _), Lib.hid (O5.set2 _), Lib.hid (by rw [HP.out]; exact o_n.set_b3 O5 (by decide) (by decide) 2 _), Lib.hid ((((B.out.trans (bb_c.mono BS.out)).alloc (Nat.le_trans BS.out hbb) _).grown g_n (by have := BS.out; simp; omega) (fun q hq => (L9.out q (.inl hq)).1)).setCell (by have := PO.out; simp; omega) _)⟩, by simp [intOf]; omega⟩
    · obtain rfl : k = n := by omega
      have hT0 : L.take k = L := by rw [← HN.out, List.take_length]
      have hT1 : L'.take k = L' := by rw [← HN'.out, List.take_length]
      rw [hT0, hT1] at V
      clear hT0 hT1
      have y0 := O.out.c0
      have y1 := O.out.c1
      have y2 := O.out.c2
      have T := spec_matDone r c vo (zipF add L L') wr V.out.rats
      obtain ⟨g9, c9, rfl⟩ := V.out.slice
      replace Z := Y
      replace B0 := B
      obtain ⟨ZN, hZN⟩ : ∃ x, x = (zipF add L L').length := ⟨_, rfl⟩
      cases hb : ZB with
      | true =>
        rw [show fineV (zipF add L L') = true by rw [← HZ.out, hb]] at T
        obtain ⟨h1, h2, h3⟩ := HZL.out true hb
        rw [if_pos rfl] at h1 h2 h3 T
        rw [← hZN] at T V y2 O
        subst h2 h3
        clear HZL HZ
        subst hb
        rw [← h1] at V
        have V := Lib.hid V.out
        clear h1 hZN
        go_wp2_with fail
        refine T.mono ?_
        rintro e w9 ⟨rfl, b9⟩
        replace Z := Lib.hid (Z.out.below b9)
        replace V := Lib.hid (V.out.below b9)
        replace B0 := Lib.hid (B0.out.trans (b9.mono B0.out.size))
        clear b9 T y0 y1 y2
        have z0 := Z.out.c0
        have z1 := Z.out.c1
        have z2 := Z.out.c2
        have x0 := Z.out.f 0
        have x1 := Z.out.f 1
        have x2 := Z.out.f 2
        have V9 := Lib.hid (OwnV.set3_b3 V.out Z.out (by decide) (by decide) (.int .i64 ZR) (.int .i64 ZC) (.slice g9 ZN c9))
        have B9 := Lib.hid (((B0.out.setCell (p := ⟨w.heap.size + 1 + 1, 0, none⟩) (by simp; omega) (.int .i64 ZR)).setCell (p := ⟨w.heap.size + 1 + 1, 1, none⟩) (by simp; omega) (.int .i64 ZC)).setCell (p := ⟨w.heap.size + 1 + 1, 2, none⟩) (by simp; omega) (.slice g9 ZN c9))
        have D8 := Z.out.set3 (.int .i64 ZR) (.int .i64 ZC) (.slice g9 ZN c9)
        have hc0 := D8.c0; have hc1 := D8.c1; have hc2 := D8.c2
        clear D8
        go_wp2_with fail
        exact bodyPost_ret (v := .tuple #[.agg #[(.int .i64 ZR), (.int .i64 ZC), (.slice g9 ZN c9)], .bool true]) (by simp [results, Try.results45, go_sem, hc0, hc1, hc2]) rfl ⟨_, _, rfl, V9.out, B9.out⟩
      | false =>
        rw [show fineV (zipF add L L') = false by rw [← HZ.out, hb]] at T
        obtain ⟨h1, h2, h3⟩ := HZL.out false hb
        rw [if_neg (by decide)] at h1 h2 h3 T
        rw [← hZN] at T V y2 O
        subst h1 h2 h3
        clear HZL HZ hZN
        subst hb
        go_wp2_with fail
        refine T.mono ?_
        rintro e w9 ⟨rfl, b9⟩
        replace Z := Lib.hid (Z.out.below b9)
        replace B0 := Lib.hid (B0.out.trans (b9.mono B0.out.size))
        clear b9 T y0 y1 y2
        have z0 := Z.out.c0
        have z1 := Z.out.c1
        have z2 := Z.out.c2
        have x0 := Z.out.f 0
        have x1 := Z.out.f 1
        have x2 := Z.out.f 2
        have V9 := Lib.hid (OwnV.set3_b3 (OwnV.nil _ w.heap.size) Z.out (by decide) (by decide) (.int .i64 0) (.int .i64 0) (.slice none 0 0))
        have B9 := Lib.hid (((B0.out.setCell (p := ⟨w.heap.size + 1 + 1, 0, none⟩) (by simp; omega) (.int .i64 0)).setCell (p := ⟨w.heap.size + 1 + 1, 1, none⟩) (by simp; omega) (.int .i64 0)).setCell (p := ⟨w.heap.size + 1 + 1, 2, none⟩) (by simp; omega) (.slice none 0 0))
        have D8 := Z.out.set3 (.int .i64 0) (.int .i64 0) (.slice none 0 0)
        have hc0 := D8.c0; have hc1 := D8.c1; have hc2 := D8.c2
        clear D8
        go_wp2_with fail
        exact bodyPost_ret (v := .tuple #[.agg #[(.int .i64 0), (.int .i64 0), (.slice none 0 0)], .bool false]) (by simp [results, Try.results45, go_sem, hc0, hc1, hc2]) rfl ⟨_, _, rfl, V9.out, B9.out⟩

end Go.Proofs.Ytojklmckjebplaa

/-! MatApp -/
namespace Go.Proofs.Ytojklmckjebplaa
set_option maxRecDepth 100000
set_option linter.unusedVariables false
set_option linter.unusedSimpArgs false
open Go.RowKit Go.WideShapes Go.ChangeShapes
set_option linter.unusedVariables false
set_option linter.unusedSimpArgs false
/-- Row i of a list that holds rows of C elements. -/
def rowM (L : List Fr) (C i : Nat) : List Fr := (L.drop (i * C)).take C
def apL (inn : List Fr → List Fr → Fr) (L : List Fr) (C : Nat) (V : List Fr) (i : Nat) : List Fr := (List.range i).map (fun k => inn (rowM L C k) V)
theorem apL_succ (inn : List Fr → List Fr → Fr) (L : List Fr) (C : Nat) (V : List Fr) (i : Nat) : apL inn L C V (i + 1) = apL inn L C V i ++ [inn (rowM L C i) V] := by unfold apL; rw [List.range_succ, List.map_append]; rfl
theorem rowM_len {L : List Fr} {R C i : Nat} (h : L.length = R * C) (hi : i < R) : (rowM L C i).length = C := by
  have := row_in (C := C) hi
  unfold rowM; rw [List.length_take, List.length_drop]; omega
theorem rowM_all {P : Fr → Prop} {L : List Fr} {C i : Nat} (h : ∀ k (hk : k < L.length), P (L[k]'hk)) : ∀ k (hk : k < (rowM L C i).length), P ((rowM L C i)[k]'hk) := by
  unfold rowM; intro k hk; simp only [List.getElem_take, List.getElem_drop]; exact h _ _

def amB (ok : Bool → List Int → List Int → Bool) (inn : List Fr → List Fr → Fr) (r c : Int) (L V : List Fr) : Bool := matB ok r c L && (vecB ok V && (decide ((V.length : Int) = c) && fineV (apL inn L c.toNat V r.toNat)))
def amL (ok : Bool → List Int → List Int → Bool) (inn : List Fr → List Fr → Fr) (r c : Int) (L V : List Fr) : List Fr := if amB ok inn r c L V then apL inn L c.toNat V r.toNat else []
end Go.Proofs.Ytojklmckjebplaa

/-! MatMul -/
namespace Go.Proofs.Ytojklmckjebplaa
set_option maxRecDepth 100000
set_option linter.unusedVariables false
set_option linter.unusedSimpArgs false
open Go.RowKit Go.WideShapes Go.ChangeShapes
set_option linter.unusedVariables false
set_option linter.unusedSimpArgs false
def prC (inn : List Fr → List Fr → Fr) (L U : List Fr) (C i k : Nat) : List Fr := (List.range k).map (fun j => inn (rowM L C i) (rowM U C j))
def prM (inn : List Fr → List Fr → Fr) (L U : List Fr) (C K i : Nat) : List Fr := (List.range i).flatMap (fun j => prC inn L U C j K)
theorem prC_succ (inn : List Fr → List Fr → Fr) (L U : List Fr) (C i k : Nat) : prC inn L U C i (k + 1) = prC inn L U C i k ++ [inn (rowM L C i) (rowM U C k)] := by unfold prC; rw [List.range_succ, List.map_append]; rfl
theorem prM_succ (inn : List Fr → List Fr → Fr) (L U : List Fr) (C K i : Nat) : prM inn L U C K (i + 1) = prM inn L U C K i ++ prC inn L U C i K := by unfold prM; rw [List.range_succ, List.flatMap_append]; simp
theorem prC_len (inn : List Fr → List Fr → Fr) (L U : List Fr) (C i k : Nat) : (prC inn L U C i k).length = k := by unfold prC; simp
theorem prM_len (inn : List Fr → List Fr → Fr) (L U : List Fr) (C K i : Nat) : (prM inn L U C K i).length = i * K := by
  induction i with
  | zero => simp [prM]
  | succ i ih => rw [prM_succ, List.length_append, ih, prC_len, Nat.add_mul, Nat.one_mul]
theorem trM_all {P : Fr → Prop} {L : List Fr} {R C : Nat} (hL : L.length = R * C) (h : ∀ k (hk : k < L.length), P (L[k]'hk)) : ∀ k (hk : k < (trM L R C C).length), P ((trM L R C C)[k]'hk) := by
  have key : ∀ x ∈ trM L R C C, P x := by
    intro x hx
    unfold trM at hx
    rw [List.mem_flatMap] at hx
    obtain ⟨c, hc, hx⟩ := hx
    unfold trC at hx
    rw [List.mem_map] at hx
    obtain ⟨i, hi, rfl⟩ := hx
    rw [List.mem_range] at hc hi
    have h9 := row_in (C := C) hi
    rw [el_at (show i * C + c < L.length by omega)]
    exact h _ _
  exact fun k hk => key _ (List.getElem_mem hk)

end Go.Proofs.Ytojklmckjebplaa

/-! MatProd -/
namespace Go.Proofs.Ytojklmckjebplaa
set_option maxRecDepth 100000
set_option linter.unusedVariables false
set_option linter.unusedSimpArgs false
open Go.RowKit Go.WideShapes Go.ChangeShapes
set_option linter.unusedVariables false
set_option linter.unusedSimpArgs false
def mpV (inn : List Fr → List Fr → Fr) (r c : Int) (L : List Fr) (r' c' : Int) (L' : List Fr) : List Fr := prM inn L (trM L' r'.toNat c'.toNat c'.toNat) c.toNat c'.toNat r.toNat
def mpB (ok : Bool → List Int → List Int → Bool) (inn : List Fr → List Fr → Fr) (r c : Int) (L : List Fr) (r' c' : Int) (L' : List Fr) : Bool := matB ok r c L && (matB ok r' c' L' && ((c == r') && fineV (mpV inn r c L r' c' L')))
def mpL (ok : Bool → List Int → List Int → Bool) (inn : List Fr → List Fr → Fr) (r c : Int) (L : List Fr) (r' c' : Int) (L' : List Fr) : List Fr := if mpB ok inn r c L r' c' L' then mpV inn r c L r' c' L' else []
def mpR (ok : Bool → List Int → List Int → Bool) (inn : List Fr → List Fr → Fr) (r c : Int) (L : List Fr) (r' c' : Int) (L' : List Fr) : Int := if mpB ok inn r c L r' c' L' then r else 0
def mpC (ok : Bool → List Int → List Int → Bool) (inn : List Fr → List Fr → Fr) (r c : Int) (L : List Fr) (r' c' : Int) (L' : List Fr) : Int := if mpB ok inn r c L r' c' L' then c' else 0
theorem mp_no {ok : Bool → List Int → List Int → Bool} {inn : List Fr → List Fr → Fr} {r c : Int} {L : List Fr} {r' c' : Int} {L' : List Fr} (h : mpB ok inn r c L r' c' L' = false) :
    mpL ok inn r c L r' c' L' = [] ∧ mpR ok inn r c L r' c' L' = 0 ∧ mpC ok inn r c L r' c' L' = 0 := by unfold mpL mpR mpC; rw [h]; exact ⟨rfl, rfl, rfl⟩
theorem mp_yes {ok : Bool → List Int → List Int → Bool} {inn : List Fr → List Fr → Fr} {r c : Int} {L : List Fr} {r' c' : Int} {L' : List Fr} (h : mpB ok inn r c L r' c' L' = true) :
    mpL ok inn r c L r' c' L' = mpV inn r c L r' c' L' ∧ mpR ok inn r c L r' c' L' = r ∧ mpC ok inn r c L r' c' L' = c' := by unfold mpL mpR mpC; rw [h]; exact ⟨rfl, rfl, rfl⟩

end Go.Proofs.Ytojklmckjebplaa
