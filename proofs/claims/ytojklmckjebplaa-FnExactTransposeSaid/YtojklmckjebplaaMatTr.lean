/- Transpose of the model; the contracts of RatOk and l04Copy open. -/
import Derived.Test.YtojklmckjebplaaMatGet
import Derived.Deep.RegionLaw
namespace Go.Proofs.Ytojklmckjebplaa
open Go.RowKit Go.WideShapes Go.ChangeShapes
set_option linter.unusedVariables false
set_option linter.unusedSimpArgs false
/-- The element in row i and column k of a list that holds rows of C elements. -/
def elM (L : List Fr) (C i k : Nat) : Fr := L[i * C + k]?.getD Fr.zero
def trC (L : List Fr) (C k R : Nat) : List Fr := (List.range R).map (fun i => elM L C i k)
def trM (L : List Fr) (R C K : Nat) : List Fr := (List.range K).flatMap (fun k => trC L C k R)
theorem trC_succ (L : List Fr) (C k R : Nat) : trC L C k (R + 1) = trC L C k R ++ [elM L C R k] := by unfold trC; rw [List.range_succ, List.map_append]; rfl
theorem trM_succ (L : List Fr) (R C K : Nat) : trM L R C (K + 1) = trM L R C K ++ trC L C K R := by unfold trM; rw [List.range_succ, List.flatMap_append]; simp
theorem trC_len (L : List Fr) (C k R : Nat) : (trC L C k R).length = R := by unfold trC; simp
theorem trM_len (L : List Fr) (R C K : Nat) : (trM L R C K).length = K * R := by
  induction K with
  | zero => simp [trM]
  | succ K ih => rw [trM_succ, List.length_append, ih, trC_len, Nat.add_mul, Nat.one_mul]
theorem el_at {L : List Fr} {C i k : Nat} (h : i * C + k < L.length) : elM L C i k = L[i * C + k]'h := by unfold elM; rw [List.getElem?_eq_getElem h, Option.getD_some]

theorem B3.far {w : World} {p q j : Nat} {t : TypeId} {x y z : Value} (h : B3 w p t x y z) (hne : p ≠ q) (u : Value) : B3 (w.setCell ⟨q, j, none⟩ u) p t x y z := h.keptK (kept_set w q j u) hne
theorem B3.grown {w w' : World} {p B : Nat} {t : TypeId} {x y z v : Value} {L : List Fr} {xs : List (Value × Value)} (h : B3 w p t x y z) (hv : OwnV w B v L xs) (h1 : t ≠ 42) (h2 : t ≠ 3) (hg : w.grownBy w' v.ownBlock) : B3 w' p t x y z :=
  h.keptK (Kept.of_grown hg) (fun e => hv.not_b3 h h1 h2 (.inl e))

set_option maxRecDepth 100000 in
set_option maxHeartbeats 2000000 in
theorem spec_transposed (Q : Fr → Prop)
    (HC : ∀ (f : Fr), Q f → ∀ v d w, RowR w v f.mag d f.den → Calls Try.prog 67 #[.agg #[.bool f.neg, v, d]] w fun r w' => ∃ x y, r = .returned (.agg #[.bool f.neg, x, y]) ∧ OwnR w' w.heap.size x f.mag y f.den ∧ Below w.heap.size w w')
    (R C n : Nat) (a : Option Addr) (cap : Nat) (L : List Fr) (w : World) (h : RatsAt w (.slice a n cap) L) (hR : R ≤ 24) (hC : C ≤ 24) (hn : n ≤ 576) (hLn : L.length = n) (hRC : n = R * C)
    (hE : ∀ k (hk : k < L.length), Q (L[k]'hk)) :
    Calls Try.prog 75 #[.agg #[.int .i64 (R : Int), .int .i64 (C : Int), .slice a n cap]] w fun e w' => ∃ u xs, e = .returned (.agg #[.int .i64 (C : Int), .int .i64 (R : Int), u]) ∧ OwnV w' w.heap.size u (trM L R C C) xs ∧ Below w.heap.size w w' := by
  have HR := Lib.hid h
  have HL := Lib.hid hLn
  have HRC := Lib.hid hRC
  have HE := Lib.hid hE
  clear h hLn hRC hE
  obtain ⟨Z, hZ⟩ : ∃ x, x = trM L R C C := ⟨_, rfl⟩
  rw [← hZ]
  have HZ := Lib.hid hZ
  clear hZ
  go_enter Try.func75, Try.ntmps75
  go_wp2_with fail
  obtain ⟨W0, hW0⟩ : ∃ x, x = ((w.alloc (.cells #[.int .i64 (R : Int), .int .i64 (C : Int), .slice a n cap] 25)).alloc (.cells #[.int .i64 0, .int .i64 0, .slice none 0 0] 25)).alloc (.cells #[.int .i64 (C : Int), .int .i64 (R : Int), .slice none 0 0] 25) := ⟨_, rfl⟩
  have M0 := Lib.hid (show B3 W0 w.heap.size 25 (.int .i64 (R : Int)) (.int .i64 (C : Int)) (.slice a n cap) by rw [hW0]; exact ((B3.new _ _ _ _ _).alloc _).alloc _)
  have Y0 := Lib.hid (show B3 W0 (w.heap.size + 1) 25 (.int .i64 0) (.int .i64 0) (.slice none 0 0) by rw [hW0]; exact b3_at ((B3.new _ _ _ _ _).alloc _) (by simp))
  have O0 := Lib.hid (show B3 W0 (w.heap.size + 1 + 1) 25 (.int .i64 (C : Int)) (.int .i64 (R : Int)) (.slice none 0 0) by rw [hW0]; exact b3_at (B3.new _ _ _ _ _) (by simp))
  have B0 := Lib.hid (show Below w.heap.size w W0 by rw [hW0]; exact (((Below.refl _ _).alloc (Nat.le_refl _) _).alloc (by simp) _).alloc (by simp; omega) _)
  rw [← hW0]
  clear hW0
  go_loopw [4] (fun kv wr => ∃ (k : Nat) (vo : Value) (xs : List (Value × Value)), k ≤ C ∧ kv = .int .i64 k ∧ Hid (B3 wr w.heap.size 25 (.int .i64 (R : Int)) (.int .i64 (C : Int)) (.slice a n cap)) ∧ Hid (B3 wr (w.heap.size + 1) 25 (.int .i64 0) (.int .i64 0) (.slice none 0 0)) ∧ Hid (B3 wr (w.heap.size + 1 + 1) 25 (.int .i64 (C : Int)) (.int .i64 (R : Int)) vo) ∧ Hid (OwnV wr w.heap.size vo (trM L R C k) xs) ∧ Hid (Below w.heap.size w wr)) (fun kv _ => C - (intOf kv).toNat)
  case atStart => exact ⟨0, .slice none 0 0, [], Nat.zero_le _, rfl, M0, Y0, O0, Lib.hid (OwnV.nil _ _), B0⟩
  case round =>
    clear M0 Y0 O0 B0
    obtain ⟨k, vo, xs, hk, rfl, M, Y, O, V, B⟩ := hrel
    by_cases hlt : k < C
    · have m0 := M.out.c0
      have m1 := M.out.c1
      go_wp2_with fail
      clear m0 m1
      go_loopw [5] (fun iv wi => ∃ (i : Nat) (vo : Value) (xs : List (Value × Value)), i ≤ R ∧ iv = .int .i64 i ∧ Hid (B3 wi w.heap.size 25 (.int .i64 (R : Int)) (.int .i64 (C : Int)) (.slice a n cap)) ∧ Hid (B3 wi (w.heap.size + 1) 25 (.int .i64 0) (.int .i64 0) (.slice none 0 0)) ∧ Hid (B3 wi (w.heap.size + 1 + 1) 25 (.int .i64 (C : Int)) (.int .i64 (R : Int)) vo) ∧ Hid (OwnV wi w.heap.size vo (trM L R C k ++ trC L C k i) xs) ∧ Hid (Below w.heap.size w wi)) (fun iv _ => R - (intOf iv).toNat)
      case atStart => exact ⟨0, vo, xs, Nat.zero_le _, rfl, M, Y, O, Lib.hid (by rw [show trC L C k 0 = [] from rfl, List.append_nil]; exact V.out), B⟩
      case round =>
        clear M Y O V B xs vo
        obtain ⟨i, vo, xs, hi, rfl, M, Y, O, V, B⟩ := hrel
        have m0 := M.out.c0
        have m1 := M.out.c1
        have m2 := M.out.c2
        by_cases hli : i < R
        · have y2 := O.out.c2
          have y3 := O.out.f 2
          have hin : i * C + k < n := by have := row_in (C := C) hli; rw [HRC.out]; omega
          have hltL : i * C + k < L.length := by rw [HL.out]; exact hin
          have HQ := Lib.hid (HE.out _ hltL)
          have HEL := Lib.hid (el_at hltL)
          have HAT := Lib.hid (fun W (hW : Below wr.heap.size wr W) => spec_at (R : Int) C i k n a cap L W (HR.out.below (B.out.trans (hW.mono B.out.size))) hin hn hC (by omega) hltL)
          obtain ⟨f, hf⟩ : ∃ f, f = L[i * C + k]'hltL := ⟨_, rfl⟩
          rw [← hf] at HAT HQ HEL
          obtain ⟨P, hP⟩ : ∃ P, P = trM L R C k ++ trC L C k i := ⟨_, rfl⟩
          have HP := Lib.hid (show trM L R C k ++ trC L C k (i + 1) = P ++ [f] by rw [trC_succ, HEL.out, hP, List.append_assoc])
          have HPL := Lib.hid (show P.length ≤ 100000 by rw [hP, List.length_append, trM_len, trC_len]; have := Nat.mul_le_mul (show k ≤ 24 by omega) hR; omega)
          rw [← hP] at V
          clear hf hP hin hltL
          replace HAT := Lib.hid (fun W (hW : Below wr.heap.size wr W) => (HAT.out W hW).mono (R' := fun e w' => ∃ x y, e = .returned (.agg #[.bool f.neg, x, y]) ∧ RowR w' x f.mag y f.den ∧ Below wr.heap.size wr w') (fun e w' ⟨x, y, he, hr, hb⟩ => ⟨x, y, he, hr, hW.trans (hb.mono hW.size)⟩))
          have HCF := Lib.hid (fun W (hW : Below wr.heap.size wr W) v d (h : RowR W v f.mag d f.den) => (HC f HQ.out v d W h).mono (R' := fun e w' => ∃ x y, e = .returned (.agg #[.bool f.neg, x, y]) ∧ OwnR w' wr.heap.size x f.mag y f.den ∧ Below wr.heap.size wr w') (fun e w' ⟨x, y, he, hr, hb⟩ => ⟨x, y, he, hr.base hW.size, hW.trans (hb.mono hW.size)⟩))
          have HO := Lib.hid (fun W (hW : Below wr.heap.size wr W) => O.out.below hW)
          have HM := Lib.hid (fun W (hW : Below wr.heap.size wr W) => M.out.below hW)
          have BS := Lib.hid B.out.size
          have L9 := Lib.hid V.out.lt
          go_wp2_with fail
          go_region_law (first
            | (have hbb := bb_c.size; have lr := O_c.out.lt; refine step_append_rat rfl _ _ rfl w.heap.size vo P xs rfl (by first | with_reducible exact (V.out.below bb_c).alloc _ | with_reducible exact ((V.out.below bb_c).alloc _).drew | fail) HPL.out (by have := BS.out; simp; omega) _ _ rfl f _ _ (by first | exact World.alloc_heap_new _ _ | fail) (OwnR.base (O_c.out.alloc _) BS.out) (fun i hi r r' h1 h2 => by have h3 := (L9.out r (.inr ⟨_, List.getElem_mem hi, h1⟩)).2; have h4 := (lr r' h2).1; omega) (fun r h2 h1 => by have h3 := (L9.out r (.inl h1)).2; have h4 := (lr r h2).1; omega) ?_; intro v_n w_n o_n g_n l_n; have VV := (V.out.below bb_c).alloc (.cells #[.bool f.neg, .slice a_c f.mag.length c_c, .slice e_c f.den.length f_c] 42); have O5 := ((HO.out _ bb_c).alloc (.cells #[.bool f.neg, .slice a_c f.mag.length c_c, .slice e_c f.den.length f_c] 42)).grown VV (by decide) (by decide) g_n; have s2 := O5.c2; have s3 := O5.f 2; obtain ⟨g9, c9, hv9⟩ := o_n.slice; subst hv9; rw [show (P ++ [f]).length = P.length + 1 from by simp] at o_n ⊢)
            | (go_simp; go_at_call 68; refine (HAT.out _ (by first | with_reducible exact Below.refl _ _ | with_reducible exact (Below.refl _ _).drew | fail)).mono ?_; rintro e w_t ⟨x_t, y_t, rfl, r_t, bb_t⟩; have R_t := Lib.hid r_t; obtain ⟨a1, r1, a2, r2, rfl, rfl, hz1, hz2⟩ := rowR_len r_t; clear r_t; have Y9 := HO.out _ bb_t; have s0 := Y9.c0; have s1 := Y9.c1; have s2 := Y9.c2; have s3 := Y9.f 2; have X9 := HM.out _ bb_t; have t0 := X9.c0; have t1 := X9.c1; have t2 := X9.c2)
            | (go_simp; go_at_call 67; refine (HCF.out _ bb_t _ _ R_t.out).mono ?_; rintro e w_c ⟨x_c, y_c, rfl, o_c, bb_c⟩; obtain ⟨a_c, c_c, e_c, f_c, rfl, rfl⟩ := o_c.slices; have O_c := Lib.hid o_c; have q2 := ((HO.out _ bb_c).alloc (.cells #[.bool f.neg, .slice a_c f.mag.length c_c, .slice e_c f.den.length f_c] 42)).c2; have Y9 := HO.out _ bb_c; have s0 := Y9.c0; have s1 := Y9.c1; have s2 := Y9.c2; have s3 := Y9.f 2; have X9 := HM.out _ bb_c; have t0 := X9.c0; have t1 := X9.c1; have t2 := X9.c2)
            | fail)
          all_goals go_wp2_with fail
          all_goals exact ⟨⟨i + 1, _, _, by omega, by go_num, Lib.hid ((((HM.out _ bb_c).alloc _).grown VV (by decide) (by decide) g_n).far (by omega) _), Lib.hid ((((Y.out.below bb_c).alloc _).grown VV (by decide) (by decide) g_n).far (by omega) _), Lib.hid (O5.set2 _), Lib.hid (by rw [HP.out]; exact o_n.set_b3 O5 (by decide) (by decide) 2 _), Lib.hid ((((B.out.trans (bb_c.mono BS.out)).alloc (Nat.le_trans BS.out hbb) _).grown g_n (by have := BS.out; simp; omega) (fun q hq => (L9.out q (.inl hq)).1)).setCell (by simp; omega) _)⟩, by simp [intOf]; omega⟩
        · obtain rfl : i = R := by omega
          have V9 := Lib.hid (show OwnV wr w.heap.size vo (trM L i C (k + 1)) xs by rw [trM_succ]; exact V.out)
          go_wp2_with fail
          exact ⟨⟨k + 1, vo, xs, by omega, by go_num, M, Y, O, V9, B⟩, by simp [intOf]; omega⟩
    · obtain rfl : k = C := by omega
      have m1 := M.out.c1
      have y0 := O.out.c0
      have y1 := O.out.c1
      have y2 := O.out.c2
      have z0 := Y.out.c0
      have z1 := Y.out.c1
      have z2 := Y.out.c2
      have x0 := Y.out.f 0
      have x1 := Y.out.f 1
      have x2 := Y.out.f 2
      rw [← HZ.out] at V
      obtain ⟨g9, c9, rfl⟩ := V.out.slice
      have V9 := Lib.hid (V.out.set3_b3 Y.out (by decide) (by decide) (.int .i64 (k : Int)) (.int .i64 (R : Int)) (.slice g9 Z.length c9))
      have B9 := Lib.hid (((B.out.setCell (p := ⟨w.heap.size + 1, 0, none⟩) (by simp) (.int .i64 (k : Int))).setCell (p := ⟨w.heap.size + 1, 1, none⟩) (by simp) (.int .i64 (R : Int))).setCell (p := ⟨w.heap.size + 1, 2, none⟩) (by simp) (.slice g9 Z.length c9))
      have D8 := Y.out.set3 (.int .i64 (k : Int)) (.int .i64 (R : Int)) (.slice g9 Z.length c9)
      have hc0 := D8.c0; have hc1 := D8.c1; have hc2 := D8.c2
      clear D8
      go_wp2_with fail
      exact bodyPost_ret (v := .agg #[.int .i64 (k : Int), .int .i64 (R : Int), .slice g9 Z.length c9]) (by simp [results, Try.results75, go_sem, hc0, hc1, hc2]) rfl ⟨_, _, rfl, V9.out, B9.out⟩

def tpL (ok : Bool → List Int → List Int → Bool) (r c : Int) (L : List Fr) : List Fr := if matB ok r c L then trM L r.toNat c.toNat c.toNat else []
def tpR (ok : Bool → List Int → List Int → Bool) (r c : Int) (L : List Fr) : Int := if matB ok r c L then c else 0
def tpC (ok : Bool → List Int → List Int → Bool) (r c : Int) (L : List Fr) : Int := if matB ok r c L then r else 0
set_option maxRecDepth 100000 in
set_option maxHeartbeats 2000000 in
theorem spec_transpose (ok : Bool → List Int → List Int → Bool)
    (HOK : ∀ b v zs d ds w, RowR w v zs d ds → Calls Try.prog 61 #[.agg #[.bool b, v, d]] w fun r w' => r = .returned (.bool (ok b zs ds)) ∧ Below w.heap.size w w')
    (HC : ∀ (f : Fr), ok f.neg f.mag f.den = true → ∀ v d w, RowR w v f.mag d f.den → Calls Try.prog 67 #[.agg #[.bool f.neg, v, d]] w fun r w' => ∃ x y, r = .returned (.agg #[.bool f.neg, x, y]) ∧ OwnR w' w.heap.size x f.mag y f.den ∧ Below w.heap.size w w')
    (r c : Int) (v : Value) (L : List Fr) (w : World) (h : RatsAt w v L) :
    Calls Try.prog 44 #[.agg #[.int .i64 r, .int .i64 c, v]] w fun e w' => ∃ u xs, e = .returned (.agg #[.int .i64 (tpR ok r c L), .int .i64 (tpC ok r c L), u]) ∧ OwnV w' w.heap.size u (tpL ok r c L) xs ∧ Below w.heap.size w w' := by
  obtain ⟨a, cap, rfl, hc, hm, hr⟩ := h
  have HR := Lib.hid (show RatsAt w (.slice a L.length cap) L from ⟨a, cap, rfl, hc, hm, hr⟩)
  unfold maxLen at hm
  clear hr
  obtain ⟨n, hnn⟩ : ∃ n, L.length = n := ⟨_, rfl⟩
  rw [hnn] at hc HR ⊢
  have HN := Lib.hid hnn
  clear hnn
  cases q0 : matB ok r c L with
  | false =>
    have e0 : tpL ok r c L = [] ∧ tpR ok r c L = 0 ∧ tpC ok r c L = 0 := by unfold tpL tpR tpC; rw [q0]; exact ⟨rfl, rfl, rfl⟩
    rw [e0.1, e0.2.1, e0.2.2]
    clear e0
    go_enter Try.func44, Try.ntmps44
    go_wp2_with fail
    obtain ⟨W0, hW0⟩ : ∃ x, x = (w.alloc (.cells #[.int .i64 r, .int .i64 c, .slice a n cap] 25)).alloc (.cells #[.int .i64 0, .int .i64 0, .slice none 0 0] 25) := ⟨_, rfl⟩
    have D := Lib.hid (show B3 W0 w.heap.size 25 (.int .i64 r) (.int .i64 c) (.slice a n cap) by rw [hW0]; exact (B3.new _ _ _ _ _).alloc _)
    have Z := Lib.hid (show B3 W0 (w.heap.size + 1) 25 (.int .i64 0) (.int .i64 0) (.slice none 0 0) by rw [hW0]; exact b3_at (B3.new _ _ _ _ _) (by simp))
    have B0 := Lib.hid (show Below w.heap.size w W0 by rw [hW0]; exact ((Below.refl _ _).alloc (Nat.le_refl _) _).alloc (by simp) _)
    rw [← hW0]
    clear hW0
    try (have d0 := D.out.c0; have d1 := D.out.c1; have d2 := D.out.c2; go_wp2_with fail)
    have T := spec_matrixOk ok HOK r c _ L W0 (HR.out.below B0.out)
    rw [q0] at T
    refine T.mono ?_
    rintro e w1 ⟨rfl, b1⟩
    replace D := Lib.hid (D.out.below b1)
    replace Z := Lib.hid (Z.out.below b1)
    replace B0 := Lib.hid (B0.out.trans (b1.mono B0.out.size))
    clear b1 T
    have d0 := D.out.c0
    have d1 := D.out.c1
    have d2 := D.out.c2
    have z0 := Z.out.c0
    have z1 := Z.out.c1
    have z2 := Z.out.c2
    have x0 := Z.out.f 0
    have x1 := Z.out.f 1
    have x2 := Z.out.f 2
    have V9 := Lib.hid (OwnV.set3_b3 (OwnV.nil _ w.heap.size) Z.out (by decide) (by decide) (.int .i64 0) (.int .i64 0) (.slice none 0 0))
    have B9 := Lib.hid (((B0.out.setCell (p := ⟨w.heap.size + 1, 0, none⟩) (by simp) (.int .i64 0)).setCell (p := ⟨w.heap.size + 1, 1, none⟩) (by simp) (.int .i64 0)).setCell (p := ⟨w.heap.size + 1, 2, none⟩) (by simp) (.slice none 0 0))
    have D8 := Z.out.set3 (.int .i64 0) (.int .i64 0) (.slice none 0 0)
    have hc0 := D8.c0; have hc1 := D8.c1; have hc2 := D8.c2
    clear D8
    go_wp2_with fail
    exact bodyPost_ret (v := .agg #[(.int .i64 0), (.int .i64 0), (.slice none 0 0)]) (by simp [results, Try.results44, go_sem, hc0, hc1, hc2]) rfl ⟨_, _, rfl, V9.out, B9.out⟩
  | true =>
  obtain ⟨R, C, rfl, rfl, hR, hC, hLn, hRC, hE⟩ := matB_parts q0
  have e0 : tpL ok R C L = trM L R C C ∧ tpR ok R C L = C ∧ tpC ok R C L = R := by unfold tpL tpR tpC; rw [q0]; exact ⟨rfl, rfl, rfl⟩
  rw [e0.1, e0.2.1, e0.2.2]
  clear e0
  have HT := Lib.hid (fun W (hW : Below w.heap.size w W) => spec_transposed (fun f => ok f.neg f.mag f.den = true) HC R C n a cap L W (HR.out.below hW) hR hC (by rw [← HN.out]; omega) HN.out (by rw [← HN.out]; exact hLn) hE)
  clear hLn hRC hE
  obtain ⟨P, hP⟩ : ∃ P, P = trM L R C C := ⟨_, rfl⟩
  rw [← hP] at HT ⊢
  clear hP
  go_enter Try.func44, Try.ntmps44
  go_wp2_with fail
  obtain ⟨W0, hW0⟩ : ∃ x, x = (w.alloc (.cells #[.int .i64 (R : Int), .int .i64 (C : Int), .slice a n cap] 25)).alloc (.cells #[.int .i64 0, .int .i64 0, .slice none 0 0] 25) := ⟨_, rfl⟩
  have D := Lib.hid (show B3 W0 w.heap.size 25 (.int .i64 (R : Int)) (.int .i64 (C : Int)) (.slice a n cap) by rw [hW0]; exact (B3.new _ _ _ _ _).alloc _)
  have Z := Lib.hid (show B3 W0 (w.heap.size + 1) 25 (.int .i64 0) (.int .i64 0) (.slice none 0 0) by rw [hW0]; exact b3_at (B3.new _ _ _ _ _) (by simp))
  have B0 := Lib.hid (show Below w.heap.size w W0 by rw [hW0]; exact ((Below.refl _ _).alloc (Nat.le_refl _) _).alloc (by simp) _)
  rw [← hW0]
  clear hW0
  try (have d0 := D.out.c0; have d1 := D.out.c1; have d2 := D.out.c2; go_wp2_with fail)
  have T := spec_matrixOk ok HOK R C _ L W0 (HR.out.below B0.out)
  rw [q0] at T
  refine T.mono ?_
  rintro e w1 ⟨rfl, b1⟩
  replace D := Lib.hid (D.out.below b1)
  replace Z := Lib.hid (Z.out.below b1)
  replace B0 := Lib.hid (B0.out.trans (b1.mono B0.out.size))
  clear b1 T
  have d0 := D.out.c0
  have d1 := D.out.c1
  have d2 := D.out.c2
  go_wp2_with fail
  refine (HT.out _ B0.out).mono ?_
  rintro e w3 ⟨u, xs, rfl, o3, b3⟩
  obtain ⟨a3, c3, rfl⟩ := o3.slice
  replace Z := Lib.hid (Z.out.below b3)
  have O3 := Lib.hid (o3.base B0.out.size)
  replace B0 := Lib.hid (B0.out.trans (b3.mono B0.out.size))
  clear b3 d0 d1 d2 o3
  have z0 := Z.out.c0
  have z1 := Z.out.c1
  have z2 := Z.out.c2
  have x0 := Z.out.f 0
  have x1 := Z.out.f 1
  have x2 := Z.out.f 2
  have V9 := Lib.hid (OwnV.set3_b3 O3.out Z.out (by decide) (by decide) (.int .i64 (C : Int)) (.int .i64 (R : Int)) (.slice a3 P.length c3))
  have B9 := Lib.hid (((B0.out.setCell (p := ⟨w.heap.size + 1, 0, none⟩) (by simp) (.int .i64 (C : Int))).setCell (p := ⟨w.heap.size + 1, 1, none⟩) (by simp) (.int .i64 (R : Int))).setCell (p := ⟨w.heap.size + 1, 2, none⟩) (by simp) (.slice a3 P.length c3))
  have D8 := Z.out.set3 (.int .i64 (C : Int)) (.int .i64 (R : Int)) (.slice a3 P.length c3)
  have hc0 := D8.c0; have hc1 := D8.c1; have hc2 := D8.c2
  clear D8
  go_wp2_with fail
  exact bodyPost_ret (v := .agg #[(.int .i64 (C : Int)), (.int .i64 (R : Int)), (.slice a3 P.length c3)]) (by simp [results, Try.results44, go_sem, hc0, hc1, hc2]) rfl ⟨_, _, rfl, V9.out, B9.out⟩

end Go.Proofs.Ytojklmckjebplaa
