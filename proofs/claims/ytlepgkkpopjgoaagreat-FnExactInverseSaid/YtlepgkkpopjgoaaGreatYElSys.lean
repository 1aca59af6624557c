/- ElBes ElPart ElSha ElInv ElInvM ElSys. -/
import Derived.Test.YtlepgkkpopjgoaaGreatYElDet
import Derived.Test.YtlepgkkpopjgoaaGreatYMatItr
import Derived.Test.YtlepgkkpopjgoaaGreatYMatIget
namespace Go.Proofs.YtlepgkkpopjgoaaGreat
open Go.RowKit Go.WideShapes Go.ChangeShapes
set_option linter.unusedVariables false
set_option linter.unusedSimpArgs false
def bsU (C K : Nat) (L M : List Fr) (i : Nat) : List Fr := (List.range i).flatMap (fun j => rowX L C j ++ rowX M K j)
theorem bsU_succ (C K : Nat) (L M : List Fr) (i : Nat) : bsU C K L M (i + 1) = (bsU C K L M i ++ rowX L C i) ++ rowX M K i := by unfold bsU; rw [List.range_succ, List.flatMap_append]; simp
theorem bsU_len {C K R n m : Nat} {L M : List Fr} (h : L.length = n) (hn : n = R * C) (h' : M.length = m) (hm : m = R * K) : ∀ i, i ≤ R → (bsU C K L M i).length = i * (C + K)
 | 0, _ => by simp [bsU]
 | i + 1, hi => by
  rw [bsU_succ, List.length_append, List.length_append, bsU_len h hn h' hm i (by omega), rowX_len h hn (by omega), rowX_len h' hm (by omega), Nat.add_mul, Nat.one_mul]
  omega
theorem bsU_all {P : Fr → Bool} {C K : Nat} {L M : List Fr} (h : L.all P = true) (h' : M.all P = true) : ∀ i, (bsU C K L M i).all P = true
 | 0 => rfl
 | i + 1 => by rw [bsU_succ, List.all_append, List.all_append, bsU_all h h' i, all_rowX h, all_rowX h']; rfl
structure BesOk (R C K n m : Nat) (L M : List Fr) : Prop where
 hR : R ≤ 24
 hC : C ≤ 24
 hK : K ≤ 24
 hCK : C + K ≤ 24
 hL : L.length = n
 hn : n = R * C
 hM : M.length = m
 hm : m = R * K
 pos : 0 < R → 0 < C ∧ 0 < K
 okL : L.all okF = true
 okM : M.all okF = true
theorem BesOk.len {R C K n m : Nat} {L M : List Fr} (h : BesOk R C K n m L M) : (bsU C K L M R).length = R * (C + K) := bsU_len h.hL h.hn h.hM h.hm R (Nat.le_refl _)
theorem BesOk.all {R C K n m : Nat} {L M : List Fr} (h : BesOk R C K n m L M) : (bsU C K L M R).all okF = true := bsU_all h.okL h.okM R
theorem BesOk.n9 {R C K n m : Nat} {L M : List Fr} (h : BesOk R C K n m L M) : n ≤ 576 ∧ m ≤ 576 := by
 have h1 := Nat.mul_le_mul h.hR h.hC
 have h2 := Nat.mul_le_mul h.hR h.hK
 have := h.hn; have := h.hm
 omega
set_option maxRecDepth 100000 in
set_option maxHeartbeats 4000000 in
theorem spec_beside (R C K n m ca cb : Nat) (a b : Option Addr) (L M : List Fr) (w : World) (h : RatsAt w (.slice a n ca) L) (h' : RatsAt w (.slice b m cb) M) (H : BesOk R C K n m L M) :
  Calls Tryz.prog 128 #[.agg #[.int .i64 (R : Int), .int .i64 (C : Int), .slice a n ca], .agg #[.int .i64 (R : Int), .int .i64 (K : Int), .slice b m cb]] w fun e w' => ∃ u xs, e = .returned (.agg #[.int .i64 (R : Int), .int .i64 ((C : Int) + K), u]) ∧ OwnV w' w.heap.size u (bsU C K L M R) xs ∧ Below w.heap.size w w' := by
 have HR := Lib.hid h
 have HR' := Lib.hid h'
 have HB := Lib.hid H
 have hR := H.hR
 have hC := H.hC
 have hK := H.hK
 have hn9 := H.n9.1
 have hm9 := H.n9.2
 clear h h' H
 obtain ⟨P9, hP9⟩ : ∃ P, P = bsU C K L M R := ⟨_, rfl⟩
 rw [← hP9]
 have HP9 := Lib.hid hP9
 clear hP9
 obtain ⟨h0, hh0⟩ : ∃ x, x = w.heap.size := ⟨_, rfl⟩
 go_enter Tryz.func128, Tryz.ntmps128
 go_wp2_with fail
 obtain ⟨W3, hW3⟩ : ∃ x, x = (((w.alloc (.cells #[.int .i64 (R : Int), .int .i64 (C : Int), .slice a n ca] 25)).alloc (.cells #[.int .i64 (R : Int), .int .i64 (K : Int), .slice b m cb] 25)).alloc (.cells #[.int .i64 0, .int .i64 0, .slice none 0 0] 25)).alloc (.cells #[.int .i64 (R : Int), .int .i64 ((C : Int) + (K : Int)), .slice none 0 0] 25) := ⟨_, rfl⟩
 have DA := Lib.hid (show B3 W3 h0 25 (.int .i64 (R : Int)) (.int .i64 (C : Int)) (.slice a n ca) by rw [hW3, hh0]; exact (((B3.new _ _ _ _ _).alloc _).alloc _).alloc _)
 have DB := Lib.hid (show B3 W3 (h0 + 1) 25 (.int .i64 (R : Int)) (.int .i64 (K : Int)) (.slice b m cb) by rw [hW3, hh0]; exact b3_at (((B3.new _ _ _ _ _).alloc _).alloc _) (by simp))
 have Y0 := Lib.hid (show B3 W3 (h0 + 1 + 1) 25 (.int .i64 0) (.int .i64 0) (.slice none 0 0) by rw [hW3, hh0]; exact b3_at ((B3.new _ _ _ _ _).alloc _) (by simp))
 have O0 := Lib.hid (show B3 W3 (h0 + 1 + 1 + 1) 25 (.int .i64 (R : Int)) (.int .i64 ((C : Int) + (K : Int))) (.slice none 0 0) by rw [hW3, hh0]; exact b3_at (B3.new _ _ _ _ _) (by simp))
 have B3_ := Lib.hid (show Below w.heap.size w W3 by rw [hW3]; exact ((((Below.refl _ _).alloc (Nat.le_refl _) _).alloc (by simp) _).alloc (by simp; omega) _).alloc (by simp; omega) _)
 have HH := Lib.hid hh0
 rw [← hW3, ← hh0]
 clear hW3 hh0
 go_loopw [6] (fun iv wr => ∃ (i : Nat) (vo : Value) (xs : List (Value × Value)), i ≤ R ∧ iv = .int .i64 i ∧ Hid (B3 wr h0 25 (.int .i64 (R : Int)) (.int .i64 (C : Int)) (.slice a n ca)) ∧ Hid (B3 wr (h0 + 1) 25 (.int .i64 (R : Int)) (.int .i64 (K : Int)) (.slice b m cb)) ∧ Hid (B3 wr (h0 + 1 + 1) 25 (.int .i64 0) (.int .i64 0) (.slice none 0 0)) ∧ Hid (B3 wr (h0 + 1 + 1 + 1) 25 (.int .i64 (R : Int)) (.int .i64 ((C : Int) + (K : Int))) vo) ∧ Hid (OwnV wr w.heap.size vo (bsU C K L M i) xs) ∧ Hid (Below w.heap.size w wr)) (fun iv _ => R - (intOf iv).toNat)
 case atStart => exact ⟨0, .slice none 0 0, [], Nat.zero_le _, rfl, DA, DB, Y0, O0, Lib.hid (OwnV.nil _ _), B3_⟩
 case round =>
  clear DA DB Y0 O0 B3_
  obtain ⟨i, vo, xs, hi, rfl, DA, DB, Y, O, V, BB⟩ := hrel
  by_cases hlt : i < R
  ·have HP := Lib.hid (bsU_succ C K L M i)
   have hpos := HB.out.pos (by omega)
   obtain ⟨P, hP⟩ : ∃ P, P = bsU C K L M i := ⟨_, rfl⟩
   obtain ⟨P1, hP1⟩ : ∃ P, P = rowX L C i := ⟨_, rfl⟩
   obtain ⟨P2, hP2⟩ : ∃ P, P = rowX M K i := ⟨_, rfl⟩
   have HPL := Lib.hid (show P.length ≤ 100000 by rw [hP, bsU_len HB.out.hL HB.out.hn HB.out.hM HB.out.hm i hi]; have := Nat.mul_le_mul hi HB.out.hCK; have := Nat.mul_le_mul_right 24 hR; omega)
   have P1in := Lib.hid (show i * C + C ≤ n by rw [HB.out.hn]; exact row_in hlt)
   have P2in := Lib.hid (show i * K + K ≤ m by rw [HB.out.hm]; exact row_in hlt)
   have P1E := Lib.hid (show P1 = (L.drop (i * C)).take C from hP1)
   have P2E := Lib.hid (show P2 = (M.drop (i * K)).take K from hP2)
   have P1L := Lib.hid (show P1.length = C by rw [hP1]; exact rowX_len HB.out.hL HB.out.hn hlt)
   have P2L := Lib.hid (show P2.length = K by rw [hP2]; exact rowX_len HB.out.hM HB.out.hm hlt)
   have P1K := Lib.hid (show ∀ k (hk : k < P1.length), ratOk (P1[k]'hk).neg (P1[k]'hk).mag (P1[k]'hk).den = true from fun k hk => List.all_eq_true.1 (show P1.all okF = true by rw [hP1]; exact all_rowX HB.out.okL C i) _ (List.getElem_mem hk))
   have P2K := Lib.hid (show ∀ k (hk : k < P2.length), ratOk (P2[k]'hk).neg (P2[k]'hk).mag (P2[k]'hk).den = true from fun k hk => List.all_eq_true.1 (show P2.all okF = true by rw [hP2]; exact all_rowX HB.out.okM K i) _ (List.getElem_mem hk))
   have HPL4 := Lib.hid (show P.length ≤ 5000 by rw [hP, bsU_len HB.out.hL HB.out.hn HB.out.hM HB.out.hm i hi]; have := Nat.mul_le_mul hi HB.out.hCK; have := Nat.mul_le_mul_right 24 hR; omega)
   rw [← hP] at V HP
   rw [← hP1, ← hP2] at HP
   clear hP hP1 hP2
   have HPL3 := Lib.hid (show P.length ≤ 5000 by have := HPL4.out; omega)
   have y2 := O.out.c2
   have y3 := O.out.f 2
   have da0 := DA.out.c0
   have da1 := DA.out.c1
   have da2 := DA.out.c2
   have HO := Lib.hid (fun W (hW : Below wr.heap.size wr W) => O.out.below hW)
   have BS := Lib.hid BB.out.size
   have L9 := Lib.hid V.out.lt
   have HRW := Lib.hid (fun W (hW : Below wr.heap.size wr W) => (spec_row (R : Int) C i n a ca L W (HR.out.below (BB.out.trans (hW.mono BB.out.size))) P1in.out (by first | exact hn9 | exact hm9) (by first | exact hC | exact hK) (by omega)).mono (R' := fun e w' => ∃ v, e = .returned v ∧ RatsAt w' v P1 ∧ Below wr.heap.size wr w') (fun e w' ⟨v, he, ho, hb⟩ => ⟨v, he, by rw [P1E.out]; exact ho, hW.trans (hb.mono hW.size)⟩))
   have HCP := Lib.hid (fun v W (hW : Below wr.heap.size wr W) (hv : RatsAt W v P1) => (spec_vecCopy (fun f => ratOk f.neg f.mag f.den = true) (fun f hf v d w h0 => spec_copyF f hf v d w h0) v P1 W hv (by rw [P1L.out]; omega) P1K.out).mono (R' := fun e w' => ∃ g c ys, e = .returned (.slice (some ⟨g, 0, none⟩) C c) ∧ OwnV w' wr.heap.size (.slice (some ⟨g, 0, none⟩) C c) P1 ys ∧ Below wr.heap.size wr w') (fun e w' ⟨u, ys, he, ho, hb⟩ => by
    obtain ⟨g, c, hv, _, _⟩ := own_at ho (by rw [P1L.out]; omega)
    rw [P1L.out] at hv
    subst hv
    exact ⟨g, c, ys, he, ho.base hW.size, hW.trans (hb.mono hW.size)⟩))
   go_wp2_with fail
   go_region_law (first
    | (have lr := O_c.out.lt; refine step_append_rats rfl _ _ rfl w.heap.size vo P xs rfl (by first | with_reducible exact V.out.below bb_c | with_reducible exact (V.out.below bb_c).drew | fail) HPL.out (by have := BS.out; have := bb_c.size; first | (simp; omega) | omega) g_c C c_c rfl P1 ys_c (by first | with_reducible exact OwnV.base O_c.out BS.out | with_reducible exact OwnV.base O_c.out.drew BS.out | fail) (by omega) (by omega) (fun i hi j hj r r' h1 h2 => by have h3 := (L9.out r (.inr ⟨_, List.getElem_mem hi, h1⟩)).2; have h4 := (lr r' (.inr ⟨_, List.getElem_mem hj, h2⟩)).1; omega) (fun j hj r h2 h1 => by have h3 := (L9.out r (.inl h1)).2; have h4 := (lr r (.inr ⟨_, List.getElem_mem hj, h2⟩)).1; omega) ?_; intro v_n w_n o_n g_n l_n; have VV := V.out.below bb_c; have O5 := (HO.out _ bb_c).grown VV (by decide) (by decide) g_n; have s2 := O5.c2; have s3 := O5.f 2; obtain ⟨g9, c9, hv9⟩ := o_n.slice; subst hv9; rw [List.length_append] at o_n ⊢)
    | (have hbr := bb_r; go_simp; go_at_call 121; refine (HCP.out v_r w_r bb_r o_r).mono ?_; rintro e w_c ⟨g_c, c_c, ys_c, rfl, o_c, bb_c⟩; have O_c := Lib.hid o_c; have Y9 := HO.out _ bb_c; have s2 := Y9.c2; have s3 := Y9.f 2)
    | (go_simp; go_at_call 130; refine (HRW.out _ (by first | with_reducible exact Below.refl _ _ | with_reducible exact (Below.refl _ _).drew | fail)).mono ?_; rintro e w_r ⟨v_r, rfl, o_r, bb_r⟩; have Y9 := HO.out _ bb_r; have s2 := Y9.c2; have s3 := Y9.f 2)
    | fail)
   all_goals (obtain ⟨W6, hW6⟩ : ∃ x, x = w_n.setCell ⟨h0 + 1 + 1 + 1, 2, none⟩ (.slice g9 (P.length + P1.length) c9) := ⟨_, rfl⟩)
   all_goals (have h0w : h0 + 1 + 1 + 1 < wr.heap.size := O.out.lt)
   all_goals (have A6 := Lib.hid (show B3 W6 h0 25 (.int .i64 (R : Int)) (.int .i64 (C : Int)) (.slice a n ca) by rw [hW6]; exact ((DA.out.below bb_c).grown VV (by decide) (by decide) g_n).far (by omega) _))
   all_goals (have B6 := Lib.hid (show B3 W6 (h0 + 1) 25 (.int .i64 (R : Int)) (.int .i64 (K : Int)) (.slice b m cb) by rw [hW6]; exact ((DB.out.below bb_c).grown VV (by decide) (by decide) g_n).far (by omega) _))
   all_goals (have Y6 := Lib.hid (show B3 W6 (h0 + 1 + 1) 25 (.int .i64 0) (.int .i64 0) (.slice none 0 0) by rw [hW6]; exact ((Y.out.below bb_c).grown VV (by decide) (by decide) g_n).far (by omega) _))
   all_goals (have O6 := Lib.hid (show B3 W6 (h0 + 1 + 1 + 1) 25 (.int .i64 (R : Int)) (.int .i64 ((C : Int) + (K : Int))) (.slice g9 (P.length + P1.length) c9) by rw [hW6]; exact O5.set2 _))
   all_goals (have V6 := Lib.hid (show OwnV W6 w.heap.size (.slice g9 (P.length + P1.length) c9) (P ++ P1) (xs ++ ys_c) by rw [hW6]; exact o_n.set_b3 O5 (by decide) (by decide) 2 _))
   all_goals (have BB6 := Lib.hid (show Below w.heap.size w W6 by rw [hW6]; exact ((BB.out.trans (bb_c.mono BS.out)).grown g_n (by have := BS.out; have := bb_c.size; omega) (fun q hq => (L9.out q (.inl hq)).1)).setCell (by show w.heap.size ≤ h0 + 1 + 1 + 1; rw [HH.out]; omega) _))
   all_goals (obtain ⟨xs2, hxs2⟩ : ∃ x, x = xs ++ ys_c := ⟨_, rfl⟩)
   all_goals (rw [← hxs2] at V6)
   all_goals (rw [← hW6])
   all_goals (have HPL2 := Lib.hid (show (P ++ P1).length ≤ 100000 by rw [List.length_append, P1L.out]; have := HPL3.out; omega))
   all_goals clear hW6 hxs2 DA DB Y O V BB VV O5 o_n l_n g_n O_c o_c bb_c bb_r o_r s2 s3 y2 y3 da0 da1 da2 HO BS L9 HRW HCP lr h0w Y9
   all_goals (have DA := A6; have DB := B6; have Y := Y6; have O := O6; have V := V6; have BB := BB6)
   all_goals clear A6 B6 Y6 O6 V6 BB6
   all_goals (have y2 := O.out.c2)
   all_goals (have y3 := O.out.f 2)
   all_goals (have da0 := DB.out.c0)
   all_goals (have da1 := DB.out.c1)
   all_goals (have da2 := DB.out.c2)
   all_goals (have HO := Lib.hid (fun W (hW : Below W6.heap.size W6 W) => O.out.below hW))
   all_goals (have BS := Lib.hid BB.out.size)
   all_goals (have L9 := Lib.hid V.out.lt)
   all_goals (have HRW := Lib.hid (fun W (hW : Below W6.heap.size W6 W) => (spec_row (R : Int) K i m b cb M W (HR'.out.below (BB.out.trans (hW.mono BB.out.size))) P2in.out (by first | exact hn9 | exact hm9) (by first | exact hC | exact hK) (by omega)).mono (R' := fun e w' => ∃ v, e = .returned v ∧ RatsAt w' v P2 ∧ Below W6.heap.size W6 w') (fun e w' ⟨v, he, ho, hb⟩ => ⟨v, he, by rw [P2E.out]; exact ho, hW.trans (hb.mono hW.size)⟩)))
   all_goals (have HCP := Lib.hid (fun v W (hW : Below W6.heap.size W6 W) (hv : RatsAt W v P2) => (spec_vecCopy (fun f => ratOk f.neg f.mag f.den = true) (fun f hf v d w h0 => spec_copyF f hf v d w h0) v P2 W hv (by rw [P2L.out]; omega) P2K.out).mono (R' := fun e w' => ∃ g c ys, e = .returned (.slice (some ⟨g, 0, none⟩) K c) ∧ OwnV w' W6.heap.size (.slice (some ⟨g, 0, none⟩) K c) P2 ys ∧ Below W6.heap.size W6 w') (fun e w' ⟨u, ys, he, ho, hb⟩ => by
    obtain ⟨g, c, hv, _, _⟩ := own_at ho (by rw [P2L.out]; omega)
    rw [P2L.out] at hv
    subst hv
    exact ⟨g, c, ys, he, ho.base hW.size, hW.trans (hb.mono hW.size)⟩)))
   all_goals (go_wp2_with fail)
   all_goals (go_region_law (first
    | (have lr := O_c.out.lt; refine step_append_rats rfl _ _ rfl w.heap.size (.slice g9 (P.length + P1.length) c9) (P ++ P1) xs2 rfl (by first | with_reducible exact V.out.below bb_c | with_reducible exact (V.out.below bb_c).drew | fail) HPL2.out (by have := BS.out; have := bb_c.size; first | (simp; omega) | omega) g_c K c_c rfl P2 ys_c (by first | with_reducible exact OwnV.base O_c.out BS.out | with_reducible exact OwnV.base O_c.out.drew BS.out | fail) (by omega) (by omega) (fun i hi j hj r r' h1 h2 => by have h3 := (L9.out r (.inr ⟨_, List.getElem_mem hi, h1⟩)).2; have h4 := (lr r' (.inr ⟨_, List.getElem_mem hj, h2⟩)).1; omega) (fun j hj r h2 h1 => by have h3 := (L9.out r (.inl h1)).2; have h4 := (lr r (.inr ⟨_, List.getElem_mem hj, h2⟩)).1; omega) ?_; intro v_n w_n o_n g_n l_n; have VV := V.out.below bb_c; have O5 := (HO.out _ bb_c).grown VV (by decide) (by decide) g_n; have s2 := O5.c2; have s3 := O5.f 2; obtain ⟨g9, c9, hv9⟩ := o_n.slice; subst hv9; rw [List.length_append] at o_n ⊢)
    | (have hbr := bb_r; go_simp; go_at_call 121; refine (HCP.out v_r w_r bb_r o_r).mono ?_; rintro e w_c ⟨g_c, c_c, ys_c, rfl, o_c, bb_c⟩; have O_c := Lib.hid o_c; have Y9 := HO.out _ bb_c; have s2 := Y9.c2; have s3 := Y9.f 2)
    | (go_simp; go_at_call 130; refine (HRW.out _ (by first | with_reducible exact Below.refl _ _ | with_reducible exact (Below.refl _ _).drew | fail)).mono ?_; rintro e w_r ⟨v_r, rfl, o_r, bb_r⟩; have Y9 := HO.out _ bb_r; have s2 := Y9.c2; have s3 := Y9.f 2)
    | fail))
   all_goals (have h0w : h0 + 1 + 1 + 1 < W6.heap.size := O.out.lt)
   all_goals (have VF := Lib.hid (o_n.set_b3 O5 (by decide) (by decide) 2 (.slice g9 ((P ++ P1).length + P2.length) c9)))
   all_goals (simp only [List.length_append] at VF)
   all_goals (rw [← HP.out] at VF)
   all_goals go_wp2_with fail
   all_goals exact ⟨⟨i + 1, _, _, by omega, by go_num, Lib.hid (((DA.out.below bb_c).grown VV (by decide) (by decide) g_n).far (by omega) _), Lib.hid (((DB.out.below bb_c).grown VV (by decide) (by decide) g_n).far (by omega) _), Lib.hid (((Y.out.below bb_c).grown VV (by decide) (by decide) g_n).far (by omega) _), Lib.hid (O5.set2 _), VF, Lib.hid (((BB.out.trans (bb_c.mono BS.out)).grown g_n (by have := BS.out; have := bb_c.size; omega) (fun q hq => (L9.out q (.inl hq)).1)).setCell (by show w.heap.size ≤ h0 + 1 + 1 + 1; rw [HH.out]; omega) _)⟩, by simp [intOf]; omega⟩
  ·obtain rfl : i = R := by omega
   rw [← HP9.out] at V
   have y0 := O.out.c0
   have y1 := O.out.c1
   have y2 := O.out.c2
   have z0 := Y.out.c0
   have z1 := Y.out.c1
   have z2 := Y.out.c2
   have x0 := Y.out.f 0
   have x1 := Y.out.f 1
   have x2 := Y.out.f 2
   have da0 := DA.out.c0
   obtain ⟨g9, c9, rfl⟩ := V.out.slice
   have hle : w.heap.size ≤ h0 + 1 + 1 := by rw [HH.out]; omega
   have V9 := Lib.hid (V.out.set3_b3 Y.out (by decide) (by decide) (.int .i64 (i : Int)) (.int .i64 ((C : Int) + (K : Int))) (.slice g9 P9.length c9))
   have B9 := Lib.hid (((BB.out.setCell (p := ⟨h0 + 1 + 1, 0, none⟩) hle (.int .i64 (i : Int))).setCell (p := ⟨h0 + 1 + 1, 1, none⟩) hle (.int .i64 ((C : Int) + (K : Int)))).setCell (p := ⟨h0 + 1 + 1, 2, none⟩) hle (.slice g9 P9.length c9))
   have D8 := Y.out.set3 (.int .i64 (i : Int)) (.int .i64 ((C : Int) + (K : Int))) (.slice g9 P9.length c9)
   have hc0 := D8.c0; have hc1 := D8.c1; have hc2 := D8.c2
   clear D8
   go_wp2_with fail
   exact bodyPost_ret (v := .agg #[.int .i64 (i : Int), .int .i64 ((C : Int) + (K : Int)), .slice g9 P9.length c9]) (by simp [results, Tryz.results128, go_sem, hc0, hc1, hc2]) rfl ⟨_, _, rfl, V9.out, B9.out⟩
end Go.Proofs.YtlepgkkpopjgoaaGreat
namespace Go.Proofs.YtlepgkkpopjgoaaGreat
open Go.RowKit Go.WideShapes Go.ChangeShapes
set_option linter.unusedVariables false
set_option linter.unusedSimpArgs false
def phi (C n K p : Nat) : Nat := (p / K) * C + n + p % K
def svU {α : Type} (C n K : Nat) (d : α) (T : List α) (i : Nat) : List α := (List.range (i * K)).map (fun p => T[phi C n K p]?.getD d)
theorem svU_len {α : Type} {C n K i : Nat} {d : α} {T : List α} : (svU C n K d T i).length = i * K := by simp [svU]
theorem phi_lt {C n K R i p : Nat} (hp : p < i * K) (hi : i ≤ R) (hK : n + K ≤ C) : phi C n K p < R * C := by
 have h0 : 0 < K := by
  rcases Nat.eq_zero_or_pos K with h | h
  ·rw [h, Nat.mul_zero] at hp; omega
  ·exact h
 have h1 : p / K < i := by rw [Nat.div_lt_iff_lt_mul h0]; exact hp
 have h2 := Nat.mod_lt p h0
 have h3 : (p / K + 1) * C ≤ R * C := Nat.mul_le_mul_right C (by omega)
 rw [Nat.add_mul, Nat.one_mul] at h3
 unfold phi
 omega
theorem phi_inj {C n K p p' : Nat} (h0 : 0 < K) (hK : n + K ≤ C) (h : phi C n K p = phi C n K p') : p = p' := by
 unfold phi at h
 have h1 := Nat.mod_lt p h0
 have h2 := Nat.mod_lt p' h0
 have d1 := div_at (C := C) (i := p / K) (k := n + p % K) (by omega)
 have d2 := div_at (C := C) (i := p' / K) (k := n + p' % K) (by omega)
 have m1 := mod_at (C := C) (i := p / K) (k := n + p % K) (by omega)
 have m2 := mod_at (C := C) (i := p' / K) (k := n + p' % K) (by omega)
 rw [← Nat.add_assoc] at d1 d2 m1 m2
 rw [h] at d1 m1
 rw [d1] at d2
 rw [m1] at m2
 have e1 := Nat.div_add_mod p K
 have e2 := Nat.div_add_mod p' K
 rw [d2] at e1
 omega
theorem svU_get {α : Type} {C n K i p : Nat} {d : α} {T : List α} (hp : p < (svU C n K d T i).length) (h : phi C n K p < T.length) : (svU C n K d T i)[p]'hp = T[phi C n K p]'h := by
 simp only [svU, List.getElem_map, List.getElem_range]
 rw [List.getElem?_eq_getElem h, Option.getD_some]
theorem svU_succ {α : Type} {C n K R i : Nat} {d : α} {T : List α} (hT : T.length = R * C) (hi : i < R) (h0 : 0 < K) (hK : n + K ≤ C) :
  svU C n K d T (i + 1) = svU C n K d T i ++ (T.drop (i * C + n)).take K := by
 have hb : i * C + C ≤ R * C := row_in hi
 apply List.ext_getElem
 ·rw [List.length_append, svU_len, svU_len, List.length_take, List.length_drop, hT, Nat.add_mul, Nat.one_mul]; omega
 ·intro p h1 h2
  rw [svU_len] at h1
  have hp := phi_lt (C := C) (n := n) h1 (show i + 1 ≤ R by omega) hK
  rw [svU_get (by rw [svU_len]; exact h1) (by rw [hT]; exact hp)]
  by_cases hlt : p < i * K
  ·rw [List.getElem_append_left (by rw [svU_len]; exact hlt), svU_get _ (by rw [hT]; exact hp)]
  ·rw [List.getElem_append_right (by rw [svU_len]; omega), List.getElem_take, List.getElem_drop]
   have h3 : p - i * K < K := by rw [Nat.add_mul, Nat.one_mul] at h1; omega
   have h4 : p / K = i := by
    have := div_at (C := K) (i := i) (k := p - i * K) h3
    rwa [show i * K + (p - i * K) = p by omega] at this
   have h5 : p % K = p - i * K := by
    have := mod_at (C := K) (i := i) (k := p - i * K) h3
    rwa [show i * K + (p - i * K) = p by omega] at this
   congr 1
   rw [svU_len]
   unfold phi
   rw [h4, h5]
def noV : Value × Value := (.slice none 0 0, .slice none 0 0)
theorem OwnV.parts {w : World} {B R C n K : Nat} {s v : Value} {T : List Fr} {ys : List (Value × Value)} (S : OwnV w B s T ys) (hT : T.length = R * C) (h0 : 0 < K) (hK : n + K ≤ C)
  (row : w.ownsRow B 34 3 v (R * K) (flat (svU C n K Fr.zero T R) (svU C n K noV ys R))) : OwnV w B v (svU C n K Fr.zero T R) (svU C n K noV ys R) := by
 have hl := S.len
 have hph : ∀ p, p < R * K → phi C n K p < R * C := fun p hp => phi_lt hp (Nat.le_refl _) hK
 refine ⟨by rw [svU_len, svU_len], by rw [svU_len]; exact row, ?_, ?_⟩
 ·intro i hi hi'
  have h1 := hph i (by rw [svU_len] at hi; exact hi)
  rw [svU_get hi' (by omega), svU_get hi (by omega)]
  exact S.each _ _ _
 ·intro i j hi hj hij g g' e1 e2
  have h1 := hph i (by rw [svU_len] at hi; exact hi)
  have h2 := hph j (by rw [svU_len] at hj; exact hj)
  rw [svU_get hi (by omega)] at e1
  rw [svU_get hj (by omega)] at e2
  exact S.apart _ _ (by omega) (by omega) (fun e => hij (phi_inj h0 hK e)) g g' e1 e2
theorem part_cells {w : World} {B q N cs o k : Nat} {T : List Fr} {ys : List (Value × Value)} (S : OwnV w B (.slice (some ⟨q, 0, none⟩) N cs) T ys) (hok : o + k ≤ T.length) :
  ∀ j u, (flat ((T.drop o).take k) ((ys.drop o).take k))[j]? = some u → w.cell? ((⟨q, o * 3, none⟩ : Addr).add j) = some u := by
 intro j u hj
 have hl := S.len
 rw [← flat_takeN _ _ _ (by simp [hl]), ← flat_dropN _ _ _ hl (by omega)] at hj
 have hlt := (List.getElem?_eq_some_iff.1 hj).1
 rw [List.length_take, List.length_drop, flat_len T ys hl] at hlt
 rw [List.getElem?_take_of_lt (by omega), List.getElem?_drop] at hj
 have hrow := S.row
 have hc := S.count
 rw [hc] at hrow
 have := hrow.cellAt (o * 3 + j) (by omega)
 rw [show (⟨q, o * 3, none⟩ : Addr).add j = ⟨q, o * 3 + j, none⟩ by simp [Addr.add]]
 exact this.trans hj
theorem part_one {w : World} {B o k : Nat} {s : Value} {T : List Fr} {ys : List (Value × Value)} (S : OwnV w B s T ys) (ho : o ≤ T.length) : ∀ u ∈ flat ((T.drop o).take k) ((ys.drop o).take k), u.oneCell' = true := by
 intro u hu
 have hl := S.len
 rw [← flat_takeN _ _ _ (by simp [hl]), ← flat_dropN _ _ _ hl ho] at hu
 exact S.one u (List.mem_of_mem_drop (List.mem_of_mem_take hu))
set_option maxRecDepth 100000 in
theorem step_append_part {ops : Array Oper} {oo : Oper} {a : Act} {Kk : Act → World → Prop} {Q : Exit → Act → World → Prop} {E : Prop} {w : World} (hgd : oo.guard = none) (s x : Operand)
  (ho : oo.op = .call { callee := .builtin .append, args := #[s, x], argTypes := #[23, 23] })
  (B : Nat) (v : Value) (U : List Fr) (us : List (Value × Value)) (hs : a.eval s = v) (hown : w.ownsRow B 34 3 v U.length (flat U us)) (hul : us.length = U.length) (hL : U.length ≤ 100000) (hB : B ≤ w.heap.size)
  (q o k c : Nat) (ad : Addr) (had : ad = ⟨q, o * 3, none⟩) (hx : a.eval x = .slice (some ad) k c) (N cs : Nat) (T : List Fr) (ys : List (Value × Value)) (S : OwnV w B (.slice (some ⟨q, 0, none⟩) N cs) T ys) (hk : 0 < k) (hk2 : k ≤ 1000) (hok : o + k ≤ T.length)
  (h : ∀ g cap w', w'.ownsRow B 34 3 (.slice (some ⟨g, 0, none⟩) (U.length + k) cap) (U.length + k) (flat (U ++ (T.drop o).take k) (us ++ (ys.drop o).take k)) → w.grownBy w' v.ownBlock → (v.ownBlock = some g ∨ g = w.heap.size) → Kk (a.put oo.dst (.slice (some ⟨g, 0, none⟩) (U.length + k) cap)) w') :
  if Region.wanted oo (yielded ops a.tmps) = true then Oper.wp Tryz.prog oo a w Kk Q else E := by
 subst had
 obtain ⟨i0, hi, hz0, hz1, hz2⟩ := info_parts info_rat
 have hl := S.len
 refine Go.step_append_lies w hgd s x 23 ho B 34 i0 _ 3 56 Tryz.underlying23 hi hz0 hz1 hz2 rfl (by decide) v U.length (flat U us) hs hown ⟨q, o * 3, none⟩ k c
  (flat ((T.drop o).take k) ((ys.drop o).take k)) hx (by rw [flat_len _ _ (by simp [hl]), List.length_take, List.length_drop]; omega) (part_cells S hok) (part_one S (by omega)) hk (by unfold maxLen; omega) (by omega) hB w.heap.size rfl ?_
 intro g cap w' hr hg hgg _
 exact h g cap w' (by rw [flat_app U us _ _ hul]; exact hr) hg hgg
set_option maxRecDepth 100000 in
theorem spec_rowV (r : Int) (C i n q cap : Nat) (w : World) (hi : i * C + C ≤ n) (hn : n ≤ 576) (hC : C ≤ 24) (hC0 : 0 < C) (hi2 : i ≤ 24) (hcap : n ≤ cap) (hcm : cap ≤ 9223372036854775807) :
  Calls Tryz.prog 130 #[.agg #[.int .i64 r, .int .i64 (C : Int), .slice (some ⟨q, 0, none⟩) n cap], .int .i64 (i : Int)] w fun e w' => e = .returned (.slice (some ⟨q, i * C * 3, none⟩) C (cap - i * C)) ∧ Below w.heap.size w w' := by
 obtain ⟨l, hl⟩ : ∃ l, i * C = l := ⟨_, rfl⟩
 have p1 : (i : Int) * (C : Int) = (l : Int) := by rw [← hl, Int.natCast_mul]
 have p2 : ((i : Int) + 1) * (C : Int) = ((l + C : Nat) : Int) := by rw [Int.add_mul, p1, Int.one_mul, Int.natCast_add]
 rw [hl] at hi ⊢
 have BA := Lib.hid ((Below.refl w.heap.size w).alloc (Nat.le_refl _) (.cells #[.int .i64 r, .int .i64 (C : Int), .slice (some ⟨q, 0, none⟩) n cap] 25))
 have hcl : ¬ cap = l := by omega
 clear hl
 go_enter Tryz.func130, Tryz.ntmps130
 go_wp2
 go_ret
 have e9 : l + C - l = C := by omega
 first
  | exact ⟨by simp [e9], BA.out⟩
  | (rw [e9]; exact ⟨rfl, BA.out⟩)
  | (rw [e9]; exact ⟨by simp, BA.out⟩)
end Go.Proofs.YtlepgkkpopjgoaaGreat
namespace Go.Proofs.YtlepgkkpopjgoaaGreat
open Go.RowKit Go.WideShapes Go.ChangeShapes
set_option linter.unusedVariables false
set_option linter.unusedSimpArgs false
structure RowsR (w : World) (L : List Fr) (xs : List (Value × Value)) : Prop where
 len : xs.length = L.length
 rows : ∀ i (h : i < L.length) (h' : i < xs.length), RowR w (xs[i]'h').1 (L[i]'h).mag (xs[i]'h').2 (L[i]'h).den
theorem RowsR.below {w w' : World} {L : List Fr} {xs : List (Value × Value)} (h : RowsR w L xs) (hb : Below w.heap.size w w') : RowsR w' L xs := ⟨h.len, fun i h1 h2 => (h.rows i h1 h2).below hb⟩
theorem RowsR.nil (w : World) : RowsR w [] [] := ⟨rfl, fun i h => by simp at h⟩
theorem RowsR.append {w : World} {L M : List Fr} {xs ys : List (Value × Value)} (h : RowsR w L xs) (k : RowsR w M ys) : RowsR w (L ++ M) (xs ++ ys) := by
 have hl := h.len
 have kl := k.len
 refine ⟨by simp [hl, kl], fun i h1 h2 => ?_⟩
 by_cases hlt : i < L.length
 ·have hlt' : i < xs.length := by omega
  simp only [List.getElem_append_left hlt, List.getElem_append_left hlt']
  exact h.rows i hlt hlt'
 ·have h3 : i - L.length < M.length := by simp at h1; omega
  have h4 : i - xs.length < ys.length := by omega
  have e2 : (xs ++ ys)[i]'h2 = ys[i - xs.length]'h4 := List.getElem_append_right (by omega)
  have e3 : (L ++ M)[i]'h1 = M[i - L.length]'h3 := List.getElem_append_right (by omega)
  rw [e2, e3]
  have := k.rows (i - L.length) h3 (by omega)
  simpa only [hl] using this
theorem RowsR.part {w : World} {L : List Fr} {xs : List (Value × Value)} (h : RowsR w L xs) (o m : Nat) : RowsR w ((L.drop o).take m) ((xs.drop o).take m) := by
 have hl := h.len
 refine ⟨by simp [hl], fun i h1 h2 => ?_⟩
 simp only [List.getElem_take, List.getElem_drop]
 exact h.rows _ _ _
structure RatsX (w : World) (b o : Nat) (L : List Fr) (xs : List (Value × Value)) : Prop where
 R : RowsR w L xs
 cell : ∀ j u, (flat L xs)[j]? = some u → w.cell? ⟨b, o + j, none⟩ = some u
theorem ratsX {w : World} {a : Option Addr} {n cap : Nat} {L : List Fr} (h : RatsAt w (.slice a n cap) L) (h0 : 0 < L.length) : ∃ b o xs, a = some ⟨b, o, none⟩ ∧ RatsX w b o L xs := by
 obtain ⟨a', c', e, h1, h2, h3⟩ := h
 injection e with e1 e2 e3
 subst e1
 obtain ⟨b, o, _, _, ha, _⟩ := h3 0 h0
 subst ha
 have key : ∀ i : Fin L.length, ∃ p : Value × Value, w.cell? ⟨b, o + i.1 * 3, none⟩ = some (.bool (L[i.1]'i.2).neg) ∧ w.cell? ⟨b, o + i.1 * 3 + 1, none⟩ = some p.1 ∧ w.cell? ⟨b, o + i.1 * 3 + 2, none⟩ = some p.2 ∧ RowR w p.1 (L[i.1]'i.2).mag p.2 (L[i.1]'i.2).den := fun i => by
  obtain ⟨b', o', x, y, e, c0, c1, c2, hr⟩ := h3 i.1 i.2
  injection e with e
  injection e with e4 e5
  subst e4 e5
  exact ⟨(x, y), c0, c1, c2, hr⟩
 obtain ⟨f, hf⟩ := Classical.axiomOfChoice key
 have hl : (List.ofFn f).length = L.length := List.length_ofFn
 refine ⟨b, o, List.ofFn f, rfl, ⟨⟨hl, fun i h1 h2 => ?_⟩, fun j u hj => ?_⟩⟩
 ·rw [List.getElem_ofFn]
  exact (hf ⟨i, h1⟩).2.2.2
 ·have hlt := (List.getElem?_eq_some_iff.1 hj).1
  rw [flat_len L _ hl] at hlt
  have hi : j / 3 < L.length := by omega
  obtain ⟨f0, f1, f2⟩ := flat_at L (List.ofFn f) (j / 3) hi (by rw [hl]; exact hi)
  obtain ⟨c0, c1, c2, _⟩ := hf ⟨j / 3, hi⟩
  rw [List.getElem_ofFn] at f1 f2
  have hr : j % 3 = 0 ∨ j % 3 = 1 ∨ j % 3 = 2 := by omega
  rcases hr with hr | hr | hr
  ·rw [show j = j / 3 * 3 by omega, f0] at hj
   injection hj with hj
   rw [← hj, show o + j = o + j / 3 * 3 by omega]; exact c0
  ·rw [show j = j / 3 * 3 + 1 by omega, f1] at hj
   injection hj with hj
   rw [← hj, show o + j = o + j / 3 * 3 + 1 by omega]; exact c1
  ·rw [show j = j / 3 * 3 + 2 by omega, f2] at hj
   injection hj with hj
   rw [← hj, show o + j = o + j / 3 * 3 + 2 by omega]; exact c2
theorem RatsX.below {w w' : World} {b o : Nat} {L : List Fr} {xs : List (Value × Value)} (h : RatsX w b o L xs) (hb : Below w.heap.size w w') : RatsX w' b o L xs :=
 ⟨h.R.below hb, fun j u hj => (hb.cell (World.block_lt_of_cell? w _ (h.cell j u hj))).trans (h.cell j u hj)⟩
theorem RatsX.cells {w : World} {b o k m : Nat} {L : List Fr} {xs : List (Value × Value)} (h : RatsX w b o L xs) (hk : k + m ≤ L.length) :
  ∀ j u, (flat ((L.drop k).take m) ((xs.drop k).take m))[j]? = some u → w.cell? ((⟨b, o + k * 3, none⟩ : Addr).add j) = some u := by
 intro j u hj
 have hl := h.R.len
 rw [← flat_takeN _ _ _ (by simp [hl]), ← flat_dropN _ _ _ hl (by omega)] at hj
 have hlt := (List.getElem?_eq_some_iff.1 hj).1
 rw [List.length_take, List.length_drop, flat_len L xs hl] at hlt
 rw [List.getElem?_take_of_lt (by omega), List.getElem?_drop] at hj
 have := h.cell _ u hj
 rw [show (⟨b, o + k * 3, none⟩ : Addr).add j = ⟨b, o + (k * 3 + j), none⟩ by simp [Addr.add, Nat.add_assoc]]
 exact this
theorem RowsR.one {w : World} {L : List Fr} {xs : List (Value × Value)} (h : RowsR w L xs) : ∀ u ∈ flat L xs, u.oneCell' = true :=
 flat_one L xs (fun p hp => by
  obtain ⟨i, hi, rfl⟩ := List.getElem_of_mem hp
  obtain ⟨a, c, e, f, h1, h2, _, _⟩ := rowR_len (h.rows i (by have := h.len; omega) hi)
  rw [h1, h2]; exact ⟨rfl, rfl⟩)
def rowG {α : Type} (T : List α) (C i : Nat) : List α := (T.drop (i * C)).take C
theorem rats_of_own {w : World} {B : Nat} {v : Value} {L : List Fr} {xs : List (Value × Value)} (hF : w.ownsRow B 34 3 v L.length (flat L xs)) (hr : RowsR w L xs) : RatsAt w v L := by
 have hl := hr.len
 rcases hF.2 with ⟨rfl, hn⟩ | ⟨g, cap, cur, rfl, hB, hg, h1, h2, h3, h4⟩
 ·exact ⟨none, 0, by rw [hn], by omega, by unfold maxLen; omega, fun i hi => by omega⟩
 ·refine ⟨some ⟨g, 0, none⟩, cap, rfl, by omega, by omega, fun i hi => ?_⟩
  obtain ⟨f0, f1, f2⟩ := flat_at L xs i hi (by omega)
  have hc : ∀ j, j < L.length * 3 → w.cell? ⟨g, j, none⟩ = (flat L xs)[j]? := fun j hj => by
   have := hF.cellAt j hj
   exact this
  refine ⟨g, 0, (xs[i]'(by omega)).1, (xs[i]'(by omega)).2, rfl, ?_, ?_, ?_, hr.rows i hi (by omega)⟩
  ·rw [Nat.zero_add, hc _ (by omega)]; exact f0
  ·rw [Nat.zero_add, hc _ (by omega)]; exact f1
  ·rw [Nat.zero_add, hc _ (by omega)]; exact f2
end Go.Proofs.YtlepgkkpopjgoaaGreat
namespace Go.Proofs.YtlepgkkpopjgoaaGreat
open Go.RowKit Go.WideShapes Go.ChangeShapes
set_option linter.unusedVariables false
set_option linter.unusedSimpArgs false
def svE (n K : Nat) (L M : List Fr) : El := runE n (n + K) (n + K) (startE (bsU n K L M n) (n + K))
def stB (n : Nat) (piv : List Nat) : Bool := decide (n = 0) || (decide (n ≤ piv.length) && decide (piv[n - 1]? = some (n - 1)))
def svB (n K : Nat) (L M : List Fr) : Bool := fineG n (n + K) (svE n K L M).g && stB n (svE n K L M).piv
def svL (n K : Nat) (L M : List Fr) : List Fr := svU (n + K) n K Fr.zero (tabM n (n + K) (svE n K L M).g) n
def svN (n K : Nat) (L M : List Fr) : Int := if svB n K L M then (n : Int) else 0
def svR (n K : Nat) (L M : List Fr) : List Fr := if svB n K L M then svL n K L M else []
theorem sv_no {n K : Nat} {L M : List Fr} (h : svB n K L M = false) : svN n K L M = 0 ∧ svR n K L M = [] := by unfold svN svR; rw [h]; exact ⟨rfl, rfl⟩
theorem sv_yes {n K : Nat} {L M : List Fr} (h : svB n K L M = true) : svN n K L M = n ∧ svR n K L M = svL n K L M := by unfold svN svR; rw [h]; exact ⟨rfl, rfl⟩
structure SvOk (n K N m : Nat) (L M : List Fr) : Prop where
 hn : n ≤ 12
 hK : K ≤ 12
 hL : L.length = N
 hN : N = n * n
 hM : M.length = m
 hm : m = n * K
 pos : 0 < n → 0 < K
 okL : L.all okF = true
 okM : M.all okF = true
theorem SvOk.bes {n K N m : Nat} {L M : List Fr} (h : SvOk n K N m L M) : BesOk n n K N m L M := ⟨by have := h.hn; omega, by have := h.hn; omega, by have := h.hK; omega, by have := h.hn; have := h.hK; omega, h.hL, h.hN, h.hM, h.hm, fun h0 => ⟨h0, h.pos h0⟩, h.okL, h.okM⟩
theorem SvOk.el {n K N m : Nat} {L M : List Fr} (h : SvOk n K N m L M) (hf : fineG n (n + K) (svE n K L M).g = true) : ElOk n (n + K) (svE n K L M) (n + K) := (runE_start_ok h.bes.len h.bes.all).2 hf
theorem ok_idL (n : Nat) : (idL oF n n).all okF = true := by
 have key : ∀ i, (idL oF n i).all okF = true := by
  intro i
  induction i with
  | zero =>
   rw [List.all_eq_true]
   intro f hf
   rw [(List.mem_replicate.1 hf).2]; exact ok_zF
  | succ i ih =>
   rw [List.all_eq_true] at ih ⊢
   intro f hf
   rcases List.mem_or_eq_of_mem_set hf with h | h
   ·exact ih f h
   ·rw [h]; exact ok_one
 exact key n
theorem sv_id {n N : Nat} {L : List Fr} (hn : n ≤ 12) (hL : L.length = N) (hN : N = n * n) (h : L.all okF = true) : SvOk n n N (n * n) L (idL oF n n) := ⟨hn, hn, hL, hN, idL_len .., rfl, fun h => h, h, ok_idL n⟩
theorem own_not3 {w : World} {B n p : Nat} {v x y z : Value} {cs : List Value} (h : w.ownsRow B 34 3 v n cs) (D : B3 w p 25 x y z) : v.ownBlock ≠ some p := by
 have D' : w.heap[p]? = some (.cells #[x, y, z] 25 (0, 0)) := D
 intro e9
 rcases h.2 with ⟨rfl, _⟩ | ⟨g1, cap1, cur1, rfl, _, hg1, _⟩
 ·simp [Value.ownBlock] at e9
 ·have e1 : g1 = p := by simpa [Value.ownBlock] using e9
  subst e1
  rw [hg1] at D'
  injection D' with D'
  injection D' with _ h3 _
  exact absurd h3 (by decide)
theorem own_form {w : World} {B n : Nat} {v : Value} {cs : List Value} (h : w.ownsRow B 34 3 v n cs) : ∃ a c, v = .slice a n c := by
 rcases h.2 with ⟨hv, hn⟩ | ⟨g, cap, cur, hv, _⟩
 ·exact ⟨none, 0, by rw [hv, hn]⟩
 ·exact ⟨_, _, hv⟩
set_option maxRecDepth 100000 in
set_option maxHeartbeats 8000000 in
theorem spec_inverseV (n N cap : Nat) (a : Option Addr) (L : List Fr) (w : World) (h : RatsAt w (.slice a N cap) L) (hn : n ≤ 12) (hL : L.length = N) (hN : N = n * n) (hok : L.all okF = true) :
  Calls Tryz.prog 88 #[.agg #[.int .i64 (n : Int), .int .i64 (n : Int), .slice a N cap]] w fun e w' => ∃ u xs, e = .returned (.tuple #[.agg #[.int .i64 (svN n n L (idL oF n n)), .int .i64 (svN n n L (idL oF n n)), u], .bool (svB n n L (idL oF n n))]) ∧ OwnV w' w.heap.size u (svR n n L (idL oF n n)) xs ∧ Below w.heap.size w w' := by
 have HR := Lib.hid h
 obtain ⟨M, hM0⟩ : ∃ M, M = idL oF n n := ⟨_, rfl⟩
 have SV := Lib.hid (show SvOk n n N (n * n) L M by rw [hM0]; exact sv_id hn hL hN hok)
 have hId := fun W => spec_identity (fun w => spec_zeroF w) oF (fun w => by have h := spec_ratFromInt 1 w (by omega); rw [of_one.1, of_one.2] at h; exact h) n W (by omega)
 rw [← hM0] at hId ⊢
 have HId := Lib.hid hId
 clear hM0 hId
 obtain ⟨T, hT⟩ : ∃ T, T = bsU n n L M n := ⟨_, rfl⟩
 have HTL := Lib.hid (show T.length = n * (n + n) by rw [hT]; exact SV.out.bes.len)
 have HTA := Lib.hid (show T.all okF = true by rw [hT]; exact SV.out.bes.all)
 obtain ⟨E, hE⟩ : ∃ E, E = svE n n L M := ⟨_, rfl⟩
 have HEX := Lib.hid (show runE n (n + n) (n + n) (startE T (n + n)) = E by rw [hE, hT]; rfl)
 obtain ⟨NI, hNI⟩ : ∃ x, x = n * n := ⟨_, rfl⟩
 rw [← hNI] at SV
 have HML := Lib.hid SV.out.hM
 obtain ⟨NT, hNT⟩ : ∃ x, x = n * (n + n) := ⟨_, rfl⟩
 rw [← hNT] at HTL
 have HNT := Lib.hid hNT
 have hNT9 : NT ≤ 576 := by rw [hNT]; have := Nat.mul_le_mul (show n ≤ 12 from hn) (show n + n ≤ 24 by omega); omega
 have HB := Lib.hid (show svB n n L M = (fineG n (n + n) E.g && stB n E.piv) by rw [hE]; rfl)
 have HSL := Lib.hid (show svL n n L M = svU (n + n) n n Fr.zero (tabM n (n + n) E.g) n by rw [hE]; rfl)
 have HEL := Lib.hid (show fineG n (n + n) E.g = true → ElOk n (n + n) E (n + n) from fun hf => by rw [hE] at hf ⊢; exact SV.out.el hf)
 have HBES := Lib.hid (fun W c' a' (hu : RatsAt W (.slice a N cap) L) (hv : RatsAt W (.slice a' NI c') M) => spec_beside n n n N NI cap c' a a' L M W hu hv SV.out.bes)
 rw [← hT] at HBES
 clear hT hE hNI hNT h hN hL
 go_enter Tryz.func88, Tryz.ntmps88
 go_upto_region 2 with fail
 obtain ⟨h0, hh0⟩ : ∃ x, x = w.heap.size := ⟨_, rfl⟩
 obtain ⟨W0, hW0⟩ : ∃ x, x = (w.alloc (.cells #[.int .i64 (n : Int), .int .i64 (n : Int), .slice a N cap] 25)).alloc (.cells #[.int .i64 0, .int .i64 0, .slice none 0 0] 25) := ⟨_, rfl⟩
 have D := Lib.hid (show B3 W0 h0 25 (.int .i64 (n : Int)) (.int .i64 (n : Int)) (.slice a N cap) by rw [hW0, hh0]; exact (B3.new _ _ _ _ _).alloc _)
 have Z := Lib.hid (show B3 W0 (h0 + 1) 25 (.int .i64 0) (.int .i64 0) (.slice none 0 0) by rw [hW0, hh0]; exact b3_at (B3.new _ _ _ _ _) (by simp))
 have B0 := Lib.hid (show Below w.heap.size w W0 by rw [hW0]; exact ((Below.refl _ _).alloc (Nat.le_refl _) _).alloc (by simp) _)
 have HH := Lib.hid hh0
 rw [← hW0, ← hh0]
 clear hW0 hh0
 have d0 := D.out.c0
 have d1 := D.out.c1
 have d2 := D.out.c2
 have ltD := D.out.lt
 have HID := Lib.hid (fun W (hW : Below W0.heap.size W0 W) => (HId.out W).mono (R' := fun e w' => ∃ a' c' xs, e = .returned (.agg #[.int .i64 (n : Int), .int .i64 (n : Int), .slice a' NI c']) ∧ OwnV w' W0.heap.size (.slice a' NI c') M xs ∧ Below W0.heap.size W0 w' ∧ Below W.heap.size W w') (fun e w' ⟨u, xs, he, ho, hb⟩ => by
  obtain ⟨a', c', hv⟩ := ho.slice
  rw [HML.out] at hv
  subst hv
  exact ⟨a', c', xs, he, ho.base hW.size, hW.trans (hb.mono hW.size), hb⟩))
 have HBS := Lib.hid (fun W c' a' (hW : Below W0.heap.size W0 W) (hv : RatsAt W (.slice a' NI c') M) => (HBES.out W c' a' (HR.out.below (B0.out.trans (hW.mono B0.out.size))) hv).mono (R' := fun e w' => ∃ a' c' xs, e = .returned (.agg #[.int .i64 (n : Int), .int .i64 ((n : Int) + (n : Int)), .slice a' NT c']) ∧ OwnV w' W0.heap.size (.slice a' NT c') T xs ∧ Below W0.heap.size W0 w' ∧ Below W.heap.size W w') (fun e w' ⟨u, xs, he, ho, hb⟩ => by
  obtain ⟨a', c', hv⟩ := ho.slice
  rw [HTL.out] at hv
  subst hv
  exact ⟨a', c', xs, he, ho.base hW.size, hW.trans (hb.mono hW.size), hb⟩))
 go_cut [5] from 12 (fun uq0 wc => ∃ (p : Nat) (a' : Option Addr) (c' : Nat) (xs : List (Value × Value)), uq0 = .pointer (some ⟨p, 0, none⟩) ∧ Hid (B3 wc p 25 (.int .i64 (n : Int)) (.int .i64 ((n : Int) + (n : Int))) (.slice a' NT c')) ∧ Hid (OwnV wc W0.heap.size (.slice a' NT c') T xs) ∧ Hid (Below W0.heap.size W0 wc) ∧ W0.heap.size ≤ p)
 case first =>
  go_region_held3 (fun w' => w'.cell? ⟨h0, 0, none⟩ = some (.int .i64 (n : Int)) ∧ w'.cell? ⟨h0, 1, none⟩ = some (.int .i64 (n : Int)) ∧ w'.cell? ⟨h0, 2, none⟩ = some (.slice a N cap))
   (first | with_reducible exact ⟨s0, s1, s2⟩ | with_reducible exact ⟨cell_alloc s0 _, cell_alloc s1 _, cell_alloc s2 _⟩ | with_reducible exact ⟨i0, i1, i2⟩ | with_reducible exact ⟨cell_alloc i0 _, cell_alloc i1 _, cell_alloc i2 _⟩ | with_reducible exact ⟨d0, d1, d2⟩ | with_reducible exact ⟨cell_drew d0, cell_drew d1, cell_drew d2⟩ | with_reducible exact ⟨cell_alloc d0 _, cell_alloc d1 _, cell_alloc d2 _⟩ | with_reducible exact ⟨cell_drew (cell_alloc d0 _), cell_drew (cell_alloc d1 _), cell_drew (cell_alloc d2 _)⟩ | with_reducible exact ⟨(cell_far3 (show h0 ≠ _ from fun e => absurd pz (by omega)) _ _ _).trans s0, (cell_far3 (show h0 ≠ _ from fun e => absurd pz (by omega)) _ _ _).trans s1, (cell_far3 (show h0 ≠ _ from fun e => absurd pz (by omega)) _ _ _).trans s2⟩ | fail)
   (first
    | (have := bb_i; go_at_call 128; refine (HBS.out _ _ _ (by first | with_reducible exact bb_i | with_reducible exact bb_i.alloc bb_i.size _) (by first | with_reducible exact o_i.rats | with_reducible exact o_i.rats.below ((Below.refl _ _).alloc (Nat.le_refl _) _))).mono ?_; rintro e w_s ⟨a_s, c_s, x_s, rfl, o_s, bb_s, bw_s⟩; (try with_reducible (have dz := B3.below dz bw_s; have pz := pz)); (try with_reducible (have dz := (show B3 w_s w_i.heap.size 25 (.int .i64 0) (.int .i64 0) (.slice none 0 0) from B3.below (B3.new _ _ _ _ _) bw_s); have pz : W0.heap.size ≤ w_i.heap.size := bb_i.size)); (try (have y0 := dz.c0; have y1 := dz.c1; have y2 := dz.c2; have y3 := dz.f 0; have y4 := dz.f 1; have y5 := dz.f 2)); have s0 := (bb_s.cell (p := ⟨h0, 0, none⟩) ltD).trans d0; have s1 := (bb_s.cell (p := ⟨h0, 1, none⟩) ltD).trans d1; have s2 := (bb_s.cell (p := ⟨h0, 2, none⟩) ltD).trans d2)
    | (go_at_call 129; refine (HID.out _ (by first | with_reducible exact Below.refl _ _ | with_reducible exact (Below.refl _ _).drew | with_reducible exact (((Below.refl _ _).drew).alloc (Nat.le_refl _) _) | with_reducible exact ((Below.refl _ _).alloc (Nat.le_refl _) _) | with_reducible exact (((Below.refl _ _).alloc (Nat.le_refl _) _).drew))).mono ?_; rintro e w_i ⟨a_i, c_i, x_i, rfl, o_i, bb_i, bw_i⟩; (try with_reducible (have dz := (show B3 w_i W0.heap.size 25 (.int .i64 0) (.int .i64 0) (.slice none 0 0) from B3.below (show B3 (World.drew (W0.alloc (.cells #[.int .i64 0, .int .i64 0, .slice none 0 0] 25))) W0.heap.size 25 (.int .i64 0) (.int .i64 0) (.slice none 0 0) from B3.drew (B3.new _ _ _ _ _)) bw_i); have pz : W0.heap.size ≤ W0.heap.size := Nat.le_refl _)); (try (have y0 := dz.c0; have y1 := dz.c1; have y2 := dz.c2; have y3 := dz.f 0; have y4 := dz.f 1; have y5 := dz.f 2)); have i0 := (bb_i.cell (p := ⟨h0, 0, none⟩) ltD).trans d0; have i1 := (bb_i.cell (p := ⟨h0, 1, none⟩) ltD).trans d1; have i2 := (bb_i.cell (p := ⟨h0, 2, none⟩) ltD).trans d2))
  all_goals go_wp2_with fail
  all_goals go_meet
  all_goals first
   | exact ⟨_, a_s, c_s, x_s, rfl, dz.set3 _ _ _, o_s.set3_b3 dz (by decide) (by decide) _ _ _, ((bb_s.setCell pz _).setCell pz _).setCell pz _, pz⟩
   | exact ⟨_, a_s, c_s, x_s, rfl, B3.new _ _ _ _ _, o_s.alloc _, bb_s.alloc bb_s.size _, bb_s.size⟩
 obtain ⟨p5, a5, c5, x5, rfl, M3, V3, B3', hp5⟩ := hcut
 obtain ⟨W3, hW3⟩ : ∃ x, x = wc := ⟨_, rfl⟩
 rw [← hW3] at M3 V3 B3' ⊢
 clear hW3 HID HBS HBES HId d0 d1 d2 HML
 obtain ⟨C2, hC2⟩ : ∃ x, x = n + n := ⟨_, rfl⟩
 have hcc : ((n : Int) + (n : Int)) = (C2 : Int) := by omega
 rw [hcc] at M3
 rw [← hC2] at HEX HB HSL HEL HNT
 have HC2 := Lib.hid hC2
 have hC24 : C2 ≤ 24 := by omega
 have hB3 : W0.heap.size ≤ W3.heap.size := B3'.out.size
 have hw0 := B0.out.size
 have HRX := Lib.hid (spec_reduceE n C2 NT c5 W0.heap.size a5 T x5 W3 V3.out (by rw [HTL.out]; exact HNT.out) HNT.out (by omega) hC24 HTA.out hB3)
 rw [HEX.out] at HRX
 clear hcc hC2
 have m0 := M3.out.c0
 have m1 := M3.out.c1
 have m2 := M3.out.c2
 go_wp2_with fail
 refine (HRX.out).mono ?_
 rintro e w4 ⟨pv, fv, ys, ps, rfl, hS, b4, km⟩
 have S4 := Lib.hid hS
 have M4 := Lib.hid (km _ _ _ _ M3.out)
 have Z4 := Lib.hid ((Z.out.below B3'.out).lows b4 Z.out.lt)
 have B4 := Lib.hid ((B0.out.trans (B3'.out.mono hw0)).trans (b4.mono hw0))
 have HFN := Lib.hid (spec_fine (.slice a5 NT c5) (tabM n C2 E.g) w4 hS.V.rats)
 have hB4 : W0.heap.size ≤ w4.heap.size := by have := b4.size; omega
 obtain ⟨pa, pc, hpv⟩ := hS.P.slice
 rw [natV_len] at hpv
 obtain ⟨pl, hpl⟩ : ∃ x, x = E.piv.length := ⟨_, rfl⟩
 rw [← hpl] at hpv
 have HPL := Lib.hid hpl
 subst hpv
 clear hS b4 km M3 V3 B3' HRX Z D B0 hpl m0 m1 m2 HR SV
 have m0 := M4.out.c0
 have m1 := M4.out.c1
 have m2 := M4.out.c2
 cases hq : fineG n C2 E.g with
 | false =>
  have hq' : fineV (tabM n C2 E.g) = false := hq
  have HSB := Lib.hid (show svB n n L M = false by rw [HB.out, hq]; rfl)
  rw [hq'] at HFN
  go_wp2_with fail
  refine (HFN.out).mono ?_
  rintro e w5 ⟨rfl, b5⟩
  have Z5 := Lib.hid (Z4.out.below b5)
  have B5 := Lib.hid (B4.out.trans (b5.mono B4.out.size))
  clear b5 HFN S4 M4 Z4 B4 m0 m1 m2
  have z0 := Z5.out.c0
  have z1 := Z5.out.c1
  have z2 := Z5.out.c2
  have x0 := Z5.out.f 0
  have x1 := Z5.out.f 1
  have x2 := Z5.out.f 2
  have hle : w.heap.size ≤ h0 + 1 := by rw [HH.out]; omega
  have V9 := Lib.hid (OwnV.set3_b3 (OwnV.nil _ w.heap.size) Z5.out (by decide) (by decide) (.int .i64 0) (.int .i64 0) (.slice none 0 0))
  have B9 := Lib.hid (((B5.out.setCell (p := ⟨h0 + 1, 0, none⟩) hle (.int .i64 0)).setCell (p := ⟨h0 + 1, 1, none⟩) hle (.int .i64 0)).setCell (p := ⟨h0 + 1, 2, none⟩) hle (.slice none 0 0))
  have D8 := Z5.out.set3 (.int .i64 0) (.int .i64 0) (.slice none 0 0)
  have hc0 := D8.c0; have hc1 := D8.c1; have hc2 := D8.c2
  clear D8
  go_wp2_with fail
  exact bodyPost_ret (v := .tuple #[.agg #[.int .i64 0, .int .i64 0, .slice none 0 0], .bool false]) (by simp [results, Tryz.results88, go_sem, hc0, hc1, hc2]) rfl (by rw [(sv_no HSB.out).1, (sv_no HSB.out).2, HSB.out]; exact ⟨_, _, rfl, V9.out, B9.out⟩)
 | true =>
  have hq' : fineV (tabM n C2 E.g) = true := hq
  rw [hq'] at HFN
  go_wp2_with fail
  refine (HFN.out).mono ?_
  rintro e w5 ⟨rfl, b5⟩
  have Z5 := Lib.hid (Z4.out.below b5)
  have B5 := Lib.hid (B4.out.trans (b5.mono B4.out.size))
  have S5 := Lib.hid (S4.out.below b5)
  have M5 := Lib.hid (M4.out.below b5)
  have hB5 : W0.heap.size ≤ w5.heap.size := Nat.le_trans hB4 b5.size
  clear b5 HFN S4 M4 Z4 B4 m0 m1 m2
  by_cases hfew : pl < n
  ·have HSB := Lib.hid (show svB n n L M = false by
    rw [HB.out, hq]
    unfold stB
    rw [decide_eq_false (show ¬ n = 0 by omega), decide_eq_false (show ¬ n ≤ E.piv.length by rw [← HPL.out]; omega)]
    rfl)
   have z0 := Z5.out.c0
   have z1 := Z5.out.c1
   have z2 := Z5.out.c2
   have x0 := Z5.out.f 0
   have x1 := Z5.out.f 1
   have x2 := Z5.out.f 2
   have hle : w.heap.size ≤ h0 + 1 := by rw [HH.out]; omega
   have V9 := Lib.hid (OwnV.set3_b3 (OwnV.nil _ w.heap.size) Z5.out (by decide) (by decide) (.int .i64 0) (.int .i64 0) (.slice none 0 0))
   have B9 := Lib.hid (((B5.out.setCell (p := ⟨h0 + 1, 0, none⟩) hle (.int .i64 0)).setCell (p := ⟨h0 + 1, 1, none⟩) hle (.int .i64 0)).setCell (p := ⟨h0 + 1, 2, none⟩) hle (.slice none 0 0))
   have D8 := Z5.out.set3 (.int .i64 0) (.int .i64 0) (.slice none 0 0)
   have hc0 := D8.c0; have hc1 := D8.c1; have hc2 := D8.c2
   clear D8
   go_wp2_with fail
   exact bodyPost_ret (v := .tuple #[.agg #[.int .i64 0, .int .i64 0, .slice none 0 0], .bool false]) (by simp [results, Tryz.results88, go_sem, hc0, hc1, hc2]) rfl (by rw [(sv_no HSB.out).1, (sv_no HSB.out).2, HSB.out]; exact ⟨_, _, rfl, V9.out, B9.out⟩)
  ·by_cases hn0 : n = 0
   ·have HSB := Lib.hid (show svB n n L M = true by
     rw [HB.out, hq]
     unfold stB
     rw [decide_eq_true hn0]
     rfl)
    have hP0 := Lib.hid (show svL n n L M = [] by rw [HSL.out]; exact List.eq_nil_of_length_eq_zero (by rw [svU_len, hn0]))
    have hz1 : ¬ (0 : Int) < (n : Int) := by omega
    obtain ⟨pO, hpO⟩ : ∃ x, x = w5.heap.size := ⟨_, rfl⟩
    obtain ⟨W6, hW6⟩ : ∃ x, x = w5.alloc (.cells #[.int .i64 (n : Int), .int .i64 (n : Int), .slice none 0 0] 25) := ⟨_, rfl⟩
    have bw := (show Below w5.heap.size w5 W6 by rw [hW6]; exact (Below.refl _ _).alloc (Nat.le_refl _) _)
    have Y := Lib.hid (Z5.out.below bw)
    have O := Lib.hid (show B3 W6 pO 25 (.int .i64 (n : Int)) (.int .i64 (n : Int)) (.slice none 0 0) by rw [hW6, hpO]; exact B3.new _ _ _ _ _)
    have BB := Lib.hid (B5.out.trans (bw.mono B5.out.size))
    have HWR := Lib.hid hW6.symm
    have HPO := Lib.hid hpO.symm
    clear hW6 hpO bw Z5 M5 S5 B5 hn0
    go_wp2_with (rw [HWR.out, HPO.out])
    refine wp_loop_rounds 1 ?_
    rw [rounds_succ]
    have y0 := O.out.c0
    have y1 := O.out.c1
    have y2 := O.out.c2
    have z0 := Y.out.c0
    have z1 := Y.out.c1
    have z2 := Y.out.c2
    have x0 := Y.out.f 0
    have x1 := Y.out.f 1
    have x2 := Y.out.f 2
    have hle : w.heap.size ≤ h0 + 1 := by rw [HH.out]; omega
    have V9 := Lib.hid (OwnV.set3_b3 (OwnV.nil _ w.heap.size) Y.out (by decide) (by decide) (.int .i64 (n : Int)) (.int .i64 (n : Int)) (.slice none 0 0))
    have B9 := Lib.hid (((BB.out.setCell (p := ⟨h0 + 1, 0, none⟩) hle (.int .i64 (n : Int))).setCell (p := ⟨h0 + 1, 1, none⟩) hle (.int .i64 (n : Int))).setCell (p := ⟨h0 + 1, 2, none⟩) hle (.slice none 0 0))
    have D8 := Y.out.set3 (.int .i64 (n : Int)) (.int .i64 (n : Int)) (.slice none 0 0)
    have hc0 := D8.c0; have hc1 := D8.c1; have hc2 := D8.c2
    clear D8
    go_wp2_with fail
    exact bodyPost_ret (v := .tuple #[.agg #[.int .i64 (n : Int), .int .i64 (n : Int), .slice none 0 0], .bool true]) (by simp [results, Tryz.results88, go_sem, hc0, hc1, hc2]) rfl (by rw [(sv_yes HSB.out).1, (sv_yes HSB.out).2, HSB.out, hP0.out]; exact ⟨_, _, rfl, V9.out, B9.out⟩)
   ·have HRD := Lib.hid S5.out.P.row
    obtain ⟨_, _, e9, _, _, hrow⟩ := HRD.out
    injection e9 with q1 q2 q3
    subst q1
    clear q2 q3
    have hpe : n - 1 < (natV E.piv).length := by rw [natV_len, ← HPL.out]; omega
    obtain ⟨b9, o9, rfl, hcell⟩ := hrow (n - 1) hpe
    have hpe' : n - 1 < E.piv.length := by rw [← HPL.out]; omega
    obtain ⟨pp, hpp⟩ : ∃ x, x = E.piv[n - 1]'hpe' := ⟨_, rfl⟩
    have hval : (natV E.piv)[n - 1]'hpe = (pp : Int) := by rw [hpp]; simp [natV]
    rw [hval] at hcell
    have hcell' : w5.cell? ⟨b9, o9 + (n - 1), none⟩ = some (.int .i64 (pp : Int)) := hcell
    have HPP := Lib.hid hpp
    have hi1 : (0 : Int) ≤ (n : Int) - 1 := by omega
    have hi2 : (n : Int) - 1 < (pl : Int) := by omega
    have hi3 : ((n : Int) - 1).toNat = n - 1 := by omega
    clear hcell hval hpp hrow HRD
    by_cases heq : pp = n - 1
    case neg =>
     have HSB := Lib.hid (show svB n n L M = false by
      rw [HB.out, hq]
      unfold stB
      rw [decide_eq_false hn0, List.getElem?_eq_getElem hpe', ← HPP.out, decide_eq_false (show ¬ some pp = some (n - 1) from fun h => heq (by injection h))]
      simp)
     have hp1 : ((pp : Int) == (n : Int) - 1) = false := by rw [beq_eq_false_iff_ne]; omega
     have hp2 : ((pp : Int) != (n : Int) - 1) = true := by unfold bne; rw [hp1]; rfl
     have hp3 : ¬ (pp : Int) = (n : Int) - 1 := by omega
     have z0 := Z5.out.c0
     have z1 := Z5.out.c1
     have z2 := Z5.out.c2
     have x0 := Z5.out.f 0
     have x1 := Z5.out.f 1
     have x2 := Z5.out.f 2
     have hle : w.heap.size ≤ h0 + 1 := by rw [HH.out]; omega
     have V9 := Lib.hid (OwnV.set3_b3 (OwnV.nil _ w.heap.size) Z5.out (by decide) (by decide) (.int .i64 0) (.int .i64 0) (.slice none 0 0))
     have B9 := Lib.hid (((B5.out.setCell (p := ⟨h0 + 1, 0, none⟩) hle (.int .i64 0)).setCell (p := ⟨h0 + 1, 1, none⟩) hle (.int .i64 0)).setCell (p := ⟨h0 + 1, 2, none⟩) hle (.slice none 0 0))
     have D8 := Z5.out.set3 (.int .i64 0) (.int .i64 0) (.slice none 0 0)
     have hc0 := D8.c0; have hc1 := D8.c1; have hc2 := D8.c2
     clear D8
     go_wp2_with fail
     exact bodyPost_ret (v := .tuple #[.agg #[.int .i64 0, .int .i64 0, .slice none 0 0], .bool false]) (by simp [results, Tryz.results88, go_sem, hc0, hc1, hc2]) rfl (by rw [(sv_no HSB.out).1, (sv_no HSB.out).2, HSB.out]; exact ⟨_, _, rfl, V9.out, B9.out⟩)
    case pos =>
     have HSB := Lib.hid (show svB n n L M = true by
      rw [HB.out, hq]
      unfold stB
      rw [decide_eq_true (show n ≤ E.piv.length by rw [← HPL.out]; omega), List.getElem?_eq_getElem hpe', ← HPP.out, heq]
      simp)
     have hp1 : ((pp : Int) == (n : Int) - 1) = true := by rw [beq_iff_eq]; omega
     have hp2 : ((pp : Int) != (n : Int) - 1) = false := by unfold bne; rw [hp1]; rfl
     have hp3 : (pp : Int) = (n : Int) - 1 := by omega
     have O5 := Lib.hid (fun o => M5.out.alloc o)
     obtain ⟨pO, hpO⟩ : ∃ x, x = w5.heap.size := ⟨_, rfl⟩
     obtain ⟨W6, hW6⟩ : ∃ x, x = w5.alloc (.cells #[.int .i64 (n : Int), .int .i64 (n : Int), .slice none 0 0] 25) := ⟨_, rfl⟩
     have bw := (show Below w5.heap.size w5 W6 by rw [hW6]; exact (Below.refl _ _).alloc (Nat.le_refl _) _)
     have Y6 := Lib.hid (Z5.out.below bw)
     have M6 := Lib.hid (M5.out.below bw)
     have S6 := Lib.hid (show OwnV W6 W0.heap.size (.slice a5 NT c5) (tabM n C2 E.g) ys from S5.out.V.below bw)
     have O6 := Lib.hid (show B3 W6 pO 25 (.int .i64 (n : Int)) (.int .i64 (n : Int)) (.slice none 0 0) by rw [hW6, hpO]; exact B3.new _ _ _ _ _)
     have B6 := Lib.hid (B5.out.trans (bw.mono B5.out.size))
     have hpO5 : p5 < pO := by rw [hpO]; exact M5.out.lt
     have hpOZ : h0 + 1 < pO := by rw [hpO]; exact Z5.out.lt
     have HWR := Lib.hid hW6.symm
     have HPO := Lib.hid hpO.symm
     have hB6 : W0.heap.size ≤ W6.heap.size := Nat.le_trans hB5 bw.size
     clear hW6 hpO bw O5 Z5 M5 S5 B5
     go_wp2_with (rw [HWR.out, HPO.out])
     have hp4 : (((n - 1 : Nat) : Int) != (n : Int) - 1) = false := by rw [show ((n - 1 : Nat) : Int) = (n : Int) - 1 by omega]; simp
     try rw [hp4]
     clear hp1 hp2 hp3 hp4 hi1 hi2 hi3 hcell'
     have hNT0 : 0 < (tabM n C2 E.g).length := by rw [tabM_len]; exact Nat.mul_pos (by omega) (by have := HC2.out; omega)
     obtain ⟨q, c9, hs9, hq1, hq2⟩ := own_at S6.out hNT0
     injection hs9 with a1 a2 a3
     subst a1
     clear a2 a3 hNT0 c9 hq1 hq2
     obtain ⟨T2, hT2⟩ : ∃ x, x = tabM n C2 E.g := ⟨_, rfl⟩
     rw [← hT2] at S6 HSL
     have HTL2 := Lib.hid (show T2.length = n * C2 by rw [hT2, tabM_len])
     obtain ⟨aa, cc, e8, hcap1, hcap2, _⟩ := S6.out.rats
     injection e8 with b1 b2 b3
     subst b1
     rw [HTL2.out, ← HNT.out] at hcap1
     unfold maxLen at hcap2
     rw [← b3] at hcap1 hcap2
     clear hT2 b2 b3 hq'
     have hnC : n + n ≤ C2 := by have := HC2.out; omega
     have hsub : C2 - n = n := by have := HC2.out; omega
     have hnC1 : (n : Int) ≤ (C2 : Int) := by omega
     go_loopw [9] (fun iv wr => ∃ (i : Nat) (vo : Value), i ≤ n ∧ iv = .int .i64 i ∧ Hid (B3 wr p5 25 (.int .i64 (n : Int)) (.int .i64 (C2 : Int)) (.slice (some ⟨q, 0, none⟩) NT c5)) ∧ Hid (B3 wr (h0 + 1) 25 (.int .i64 0) (.int .i64 0) (.slice none 0 0)) ∧ Hid (B3 wr pO 25 (.int .i64 (n : Int)) (.int .i64 (n : Int)) vo) ∧ Hid (OwnV wr W0.heap.size (.slice (some ⟨q, 0, none⟩) NT c5) T2 ys) ∧ Hid (wr.ownsRow W0.heap.size 34 3 vo (i * n) (flat (svU C2 n n Fr.zero T2 i) (svU C2 n n noV ys i))) ∧ Hid (∀ k, OnV (.slice (some ⟨q, 0, none⟩) NT c5) ys k → vo.ownBlock ≠ some k) ∧ Hid (Below w.heap.size w wr) ∧ Hid (W0.heap.size ≤ wr.heap.size)) (fun iv _ => n - (intOf iv).toNat)
     case atStart => exact ⟨0, .slice none 0 0, Nat.zero_le _, rfl, M6, Y6, O6, S6, Lib.hid (by rw [Nat.zero_mul]; simp only [svU, Nat.zero_mul, List.range_zero, List.map_nil]; exact World.ownsRow_nil _ _ _ _), Lib.hid (fun k _ => by simp [Value.ownBlock]), B6, Lib.hid hB6⟩
     case round =>
      clear M6 Y6 O6 S6 B6
      obtain ⟨i, vo, hi, rfl, MB, Y, O, S, RW, NE, BB, hBW9⟩ := hrel
      have hBW := hBW9.out
      by_cases hlt : i < n
      ·have m0 := MB.out.c0
       have m1 := MB.out.c1
       have m2 := MB.out.c2
       have y2 := O.out.c2
       have y3 := O.out.f 2
       have hNT2 := HNT.out
       have hin : i * C2 + C2 ≤ NT := by rw [hNT2]; exact row_in hlt
       obtain ⟨l3, hl3⟩ : ∃ x, x = i * C2 * 3 := ⟨_, rfl⟩
       obtain ⟨cp, hcp⟩ : ∃ x, x = c5 - i * C2 := ⟨_, rfl⟩
       obtain ⟨o3, ho3⟩ : ∃ x, x = l3 + n * 3 := ⟨_, rfl⟩
       have HO3 := Lib.hid (show o3 = (i * C2 + n) * 3 by rw [ho3, hl3]; omega)
       have hcp9 : n ≤ cp := by omega
       have hcp8 : C2 ≤ cp := by omega
       have hcpn : ¬ cp = n := by omega
       have hcp7 : cp ≤ 9223372036854775807 := by omega
       have HRW := Lib.hid (fun W (hW : Below wr.heap.size wr W) => (spec_rowV (n : Int) C2 i NT q c5 W hin hNT9 hC24 (by omega) (by omega) hcap1 (by omega)).mono (R' := fun e w' => e = .returned (.slice (some ⟨q, l3, none⟩) C2 cp) ∧ Below wr.heap.size wr w') (fun e w' ⟨he, hb⟩ => ⟨by rw [hl3, hcp]; exact he, hW.trans (hb.mono hW.size)⟩))
       have HO := Lib.hid (fun W (hW : Below wr.heap.size wr W) => O.out.below hW)
       have HOWN := Lib.hid (fun W (hW : Below wr.heap.size wr W) => (show W.ownsRow W0.heap.size 34 3 vo (svU C2 n n Fr.zero T2 i).length (flat (svU C2 n n Fr.zero T2 i) (svU C2 n n noV ys i)) by rw [svU_len]; exact rowV_kept (S := fun _ => False) RW.out (Kept.of_below hW) (fun _ _ h => h)))
       have HSU := Lib.hid (svU_succ (d := Fr.zero) HTL2.out hlt (show 0 < n by omega) hnC)
       have HSU2 := Lib.hid (svU_succ (d := noV) (show ys.length = n * C2 by rw [S.out.len, HTL2.out]) hlt (show 0 < n by omega) hnC)
       have hUL : (svU C2 n n Fr.zero T2 i).length ≤ 100000 := by rw [svU_len]; have := Nat.mul_le_mul hi hn; omega
       have hok9 : i * C2 + n + n ≤ T2.length := by rw [HTL2.out, ← hNT2]; omega
       clear hl3 hcp hNT2
       replace ho3 := ho3.symm
       go_wp2_with fail
       go_region_law (first
        | (have hbr := bb_r; refine step_append_part rfl _ _ rfl W0.heap.size vo (svU C2 n n Fr.zero T2 i) (svU C2 n n noV ys i) rfl (by first | with_reducible exact HOWN.out _ bb_r | with_reducible exact HOWN.out _ bb_r.drew | fail) (by rw [svU_len, svU_len]) hUL (by have := bb_r.size; first | (simp; omega) | omega) q (i * C2 + n) n (cp - n) ⟨q, o3, none⟩ (by rw [HO3.out]) rfl NT c5 T2 ys (by first | with_reducible exact S.out.below bb_r | with_reducible exact S.out.below bb_r.drew | fail) (by omega) (by omega) hok9 ?_; intro g_n c_n w_n o_n g_g hgg; have ND := own_not3 (HOWN.out _ bb_r) (HO.out _ bb_r); have O5 := (HO.out _ bb_r).keptK (Kept.of_grown g_g) (fun e => ND e); have s2 := O5.c2; have s3 := O5.f 2; rw [svU_len] at o_n ⊢)
        | (go_simp; go_at_call 130; refine (HRW.out _ (by first | with_reducible exact Below.refl _ _ | with_reducible exact (Below.refl _ _).drew | fail)).mono ?_; rintro e w_r ⟨rfl, bb_r⟩; have Y9 := HO.out _ bb_r; have s2 := Y9.c2; have s3 := Y9.f 2)
        | fail)
       all_goals (have oN : w_n.ownsRow W0.heap.size 34 3 (.slice (some ⟨g_n, 0, none⟩) (i * n + n) c_n) ((i + 1) * n) (flat (svU C2 n n Fr.zero T2 (i + 1)) (svU C2 n n noV ys (i + 1))) := by rw [HSU.out, HSU2.out, Nat.add_mul, Nat.one_mul]; exact o_n)
       all_goals (have hlo := RW.out.lt)
       all_goals (have hsb := bb_r.size)
       all_goals (have hgs := g_g.size)
       all_goals (have FM := Lib.hid (((MB.out.below bb_r).keptK (Kept.of_grown g_g) (fun e => own_not3 (HOWN.out _ bb_r) (MB.out.below bb_r) e)).far (q := pO) (j := 2) (by omega) (.slice (some ⟨g_n, 0, none⟩) (i * n + n) c_n)))
       all_goals (have FY := Lib.hid (((Y.out.below bb_r).keptK (Kept.of_grown g_g) (fun e => own_not3 (HOWN.out _ bb_r) (Y.out.below bb_r) e)).far (q := pO) (j := 2) (by omega) (.slice (some ⟨g_n, 0, none⟩) (i * n + n) c_n)))
       all_goals (have FO := Lib.hid (O5.set2 (.slice (some ⟨g_n, 0, none⟩) (i * n + n) c_n)))
       all_goals (have FS := Lib.hid (((S.out.below bb_r).kept (Kept.of_grown g_g) (fun k hk e => NE.out k hk e)).set_b3 O5 (by decide) (by decide) 2 (.slice (some ⟨g_n, 0, none⟩) (i * n + n) c_n)))
       all_goals (have FR := Lib.hid (rowV_kept oN (kept_set w_n pO 2 (.slice (some ⟨g_n, 0, none⟩) (i * n + n) c_n)) (fun k hk e => own_not3 o_n O5 (by rw [← e]; exact hk))))
       all_goals (have FN := Lib.hid (show ∀ k, OnV (.slice (some ⟨q, 0, none⟩) NT c5) ys k → (Value.slice (some ⟨g_n, 0, none⟩) (i * n + n) c_n).ownBlock ≠ some k from fun k hk e => by
        have e1 : g_n = k := by simpa [Value.ownBlock] using e
        have h9 := ((S.out.below bb_r).lt k hk).2
        rcases hgg with h | h
        ·exact NE.out k hk (by rw [h, e1])
        ·omega))
       all_goals (have FB := Lib.hid (((BB.out.trans (bb_r.mono BB.out.size)).grown g_g (by have := BB.out.size; omega) (fun k hk => by have := (hlo k hk).1; omega)).setCell (p := ⟨pO, 2, none⟩) (by show w.heap.size ≤ pO; have := HPO.out; have := HH.out; omega) (.slice (some ⟨g_n, 0, none⟩) (i * n + n) c_n)))
       all_goals (have hF9 : W0.heap.size ≤ (w_n.setCell ⟨pO, 2, none⟩ (.slice (some ⟨g_n, 0, none⟩) (i * n + n) c_n)).heap.size := by simp; omega)
       all_goals clear MB Y O S RW NE BB O5 oN o_n hgg
       all_goals go_wp2_with fail
       all_goals exact ⟨⟨i + 1, _, by omega, by go_num, FM, FY, FO, FS, FR, FN, FB, Lib.hid hF9⟩, by simp [intOf]; omega⟩
      ·obtain rfl : i = n := by omega
       have OV := OwnV.parts S.out HTL2.out (show 0 < i by omega) hnC RW.out
       rw [← HSL.out] at OV
       obtain ⟨P9, hP9⟩ : ∃ x, x = svL i i L M := ⟨_, rfl⟩
       rw [← hP9] at OV
       have HP9 := Lib.hid hP9
       obtain ⟨g9, c9, rfl⟩ := OV.slice
       have y0 := O.out.c0
       have y1 := O.out.c1
       have y2 := O.out.c2
       have z0 := Y.out.c0
       have z1 := Y.out.c1
       have z2 := Y.out.c2
       have x0 := Y.out.f 0
       have x1 := Y.out.f 1
       have x2 := Y.out.f 2
       have hle : w.heap.size ≤ h0 + 1 := by rw [HH.out]; omega
       have V9 := Lib.hid ((OV.set3_b3 Y.out (by decide) (by decide) (.int .i64 (i : Int)) (.int .i64 (i : Int)) (.slice g9 P9.length c9)).base hw0)
       have B9 := Lib.hid (((BB.out.setCell (p := ⟨h0 + 1, 0, none⟩) hle (.int .i64 (i : Int))).setCell (p := ⟨h0 + 1, 1, none⟩) hle (.int .i64 (i : Int))).setCell (p := ⟨h0 + 1, 2, none⟩) hle (.slice g9 P9.length c9))
       have D8 := Y.out.set3 (.int .i64 (i : Int)) (.int .i64 (i : Int)) (.slice g9 P9.length c9)
       have hc0 := D8.c0; have hc1 := D8.c1; have hc2 := D8.c2
       clear D8 OV hP9
       go_wp2_with fail
       exact bodyPost_ret (v := .tuple #[.agg #[.int .i64 (i : Int), .int .i64 (i : Int), .slice g9 P9.length c9], .bool true]) (by simp [results, Tryz.results88, go_sem, hc0, hc1, hc2]) rfl (by rw [(sv_yes HSB.out).1, (sv_yes HSB.out).2, HSB.out, ← HP9.out]; exact ⟨_, _, rfl, V9.out, B9.out⟩)
end Go.Proofs.YtlepgkkpopjgoaaGreat
namespace Go.Proofs.YtlepgkkpopjgoaaGreat
open Go.RowKit Go.WideShapes Go.ChangeShapes
set_option linter.unusedVariables false
set_option linter.unusedSimpArgs false
def ivOk (r c : Int) (L : List Fr) : Bool := matB ratOk r c L && (decide (r = c) && decide (r ≤ 12))
def ivB (r c : Int) (L : List Fr) : Bool := ivOk r c L && svB r.toNat r.toNat L (idL oF r.toNat r.toNat)
def ivN (r c : Int) (L : List Fr) : Int := if ivOk r c L then svN r.toNat r.toNat L (idL oF r.toNat r.toNat) else 0
def ivR (r c : Int) (L : List Fr) : List Fr := if ivOk r c L then svR r.toNat r.toNat L (idL oF r.toNat r.toNat) else []
theorem iv_no {r c : Int} {L : List Fr} (h : ivOk r c L = false) : ivN r c L = 0 ∧ ivR r c L = [] ∧ ivB r c L = false := by unfold ivN ivR ivB; rw [h]; exact ⟨rfl, rfl, rfl⟩
theorem iv_yes {r c : Int} {L : List Fr} (h : ivOk r c L = true) : ivN r c L = svN r.toNat r.toNat L (idL oF r.toNat r.toNat) ∧ ivR r c L = svR r.toNat r.toNat L (idL oF r.toNat r.toNat) ∧ ivB r c L = svB r.toNat r.toNat L (idL oF r.toNat r.toNat) := by unfold ivN ivR ivB; rw [h]; exact ⟨rfl, rfl, rfl⟩
set_option maxRecDepth 100000 in
set_option maxHeartbeats 2000000 in
theorem spec_inverseM (r c : Int) (v : Value) (L : List Fr) (w : World) (h : RatsAt w v L) :
  Calls Tryz.prog 41 #[.agg #[.int .i64 r, .int .i64 c, v]] w fun e w' => ∃ u xs, e = .returned (.tuple #[.agg #[.int .i64 (ivN r c L), .int .i64 (ivN r c L), u], .bool (ivB r c L)]) ∧ OwnV w' w.heap.size u (ivR r c L) xs ∧ Below w.heap.size w w' := by
 obtain ⟨a, cap, rfl, hc, hm, hr⟩ := h
 have HR := Lib.hid (show RatsAt w (.slice a L.length cap) L from ⟨a, cap, rfl, hc, hm, hr⟩)
 unfold maxLen at hm
 clear hr
 obtain ⟨n, hnn⟩ : ∃ n, L.length = n := ⟨_, rfl⟩
 rw [hnn] at hc HR ⊢
 have HN := Lib.hid hnn
 clear hnn
 cases q0 : matB ratOk r c L with
 | false =>
  have HDO := Lib.hid (show ivOk r c L = false by unfold ivOk; rw [q0]; rfl)
  go_enter Tryz.func41, Tryz.ntmps41
  go_wp2_with fail
  obtain ⟨W0, hW0⟩ : ∃ x, x = (w.alloc (.cells #[.int .i64 r, .int .i64 c, .slice a n cap] 25)).alloc (.cells #[.int .i64 0, .int .i64 0, .slice none 0 0] 25) := ⟨_, rfl⟩
  have D := Lib.hid (show B3 W0 w.heap.size 25 (.int .i64 r) (.int .i64 c) (.slice a n cap) by rw [hW0]; exact (B3.new _ _ _ _ _).alloc _)
  have Z := Lib.hid (show B3 W0 (w.heap.size + 1) 25 (.int .i64 0) (.int .i64 0) (.slice none 0 0) by rw [hW0]; exact b3_at (B3.new _ _ _ _ _) (by simp))
  have B0 := Lib.hid (show Below w.heap.size w W0 by rw [hW0]; exact ((Below.refl _ _).alloc (Nat.le_refl _) _).alloc (by simp) _)
  rw [← hW0]
  clear hW0
  have d0 := D.out.c0
  have d1 := D.out.c1
  have d2 := D.out.c2
  go_wp2_with fail
  have T := spec_matrixOk ratOk (fun b v zs d ds w h => spec_ratOk b v zs d ds w h) r c _ L W0 (HR.out.below B0.out)
  rw [q0] at T
  refine T.mono ?_
  rintro e w1 ⟨rfl, b1⟩
  replace D := Lib.hid (D.out.below b1)
  replace Z := Lib.hid (Z.out.below b1)
  replace B0 := Lib.hid (B0.out.trans (b1.mono B0.out.size))
  clear b1 T d0 d1 d2
  have d0 := D.out.c0
  have d1 := D.out.c1
  have d2 := D.out.c2
  have z0 := Z.out.c0
  have z1 := Z.out.c1
  have z2 := Z.out.c2
  have x0 := Z.out.f 0
  have x1 := Z.out.f 1
  have x2 := Z.out.f 2
  have V9 := Lib.hid (OwnV.set3_b3 (OwnV.nil _ w.heap.size) Z.out (by decide) (by decide) (.int .i64 0) (.int .i64 0) (.slice none 0 0))
  have B9 := Lib.hid (((B0.out.setCell (p := ⟨w.heap.size + 1, 0, none⟩) (by simp) (.int .i64 0)).setCell (p := ⟨w.heap.size + 1, 1, none⟩) (by simp) (.int .i64 0)).setCell (p := ⟨w.heap.size + 1, 2, none⟩) (by simp) (.slice none 0 0))
  have D8 := Z.out.set3 (.int .i64 0) (.int .i64 0) (.slice none 0 0)
  have hc0 := D8.c0; have hc1 := D8.c1; have hc2 := D8.c2
  clear D8
  go_wp2_with fail
  obtain ⟨e1, e2, e3⟩ := iv_no HDO.out
  exact bodyPost_ret (v := .tuple #[.agg #[.int .i64 0, .int .i64 0, .slice none 0 0], .bool false]) (by simp [results, Tryz.results41, go_sem, hc0, hc1, hc2]) rfl (by rw [e1, e2, e3]; exact ⟨_, _, rfl, V9.out, B9.out⟩)
 | true =>
 obtain ⟨R, C, rfl, rfl, hR, hC, hLn, hRC, hE⟩ := matB_parts q0
 rw [HN.out] at hLn
 by_cases hne : R = C
 case neg =>
  have HDO := Lib.hid (show ivOk R C L = false by unfold ivOk; rw [decide_eq_false (show ¬ (R : Int) = C by omega)]; simp)
  have hb1 : ((R : Int) == (C : Int)) = false := by rw [beq_eq_false_iff_ne]; omega
  have hb2 : ((R : Int) != (C : Int)) = true := by unfold bne; rw [hb1]; rfl
  have hb3 : ¬ (R : Int) = (C : Int) := by omega
  clear hLn hRC hE
  go_enter Tryz.func41, Tryz.ntmps41
  go_wp2_with fail
  obtain ⟨W0, hW0⟩ : ∃ x, x = (w.alloc (.cells #[.int .i64 (R : Int), .int .i64 (C : Int), .slice a n cap] 25)).alloc (.cells #[.int .i64 0, .int .i64 0, .slice none 0 0] 25) := ⟨_, rfl⟩
  have D := Lib.hid (show B3 W0 w.heap.size 25 (.int .i64 (R : Int)) (.int .i64 (C : Int)) (.slice a n cap) by rw [hW0]; exact (B3.new _ _ _ _ _).alloc _)
  have Z := Lib.hid (show B3 W0 (w.heap.size + 1) 25 (.int .i64 0) (.int .i64 0) (.slice none 0 0) by rw [hW0]; exact b3_at (B3.new _ _ _ _ _) (by simp))
  have B0 := Lib.hid (show Below w.heap.size w W0 by rw [hW0]; exact ((Below.refl _ _).alloc (Nat.le_refl _) _).alloc (by simp) _)
  rw [← hW0]
  clear hW0
  have d0 := D.out.c0
  have d1 := D.out.c1
  have d2 := D.out.c2
  go_wp2_with fail
  have T := spec_matrixOk ratOk (fun b v zs d ds w h => spec_ratOk b v zs d ds w h) (R : Int) (C : Int) _ L W0 (HR.out.below B0.out)
  rw [q0] at T
  refine T.mono ?_
  rintro e w1 ⟨rfl, b1⟩
  replace D := Lib.hid (D.out.below b1)
  replace Z := Lib.hid (Z.out.below b1)
  replace B0 := Lib.hid (B0.out.trans (b1.mono B0.out.size))
  clear b1 T d0 d1 d2
  have d0 := D.out.c0
  have d1 := D.out.c1
  have d2 := D.out.c2
  have z0 := Z.out.c0
  have z1 := Z.out.c1
  have z2 := Z.out.c2
  have x0 := Z.out.f 0
  have x1 := Z.out.f 1
  have x2 := Z.out.f 2
  have V9 := Lib.hid (OwnV.set3_b3 (OwnV.nil _ w.heap.size) Z.out (by decide) (by decide) (.int .i64 0) (.int .i64 0) (.slice none 0 0))
  have B9 := Lib.hid (((B0.out.setCell (p := ⟨w.heap.size + 1, 0, none⟩) (by simp) (.int .i64 0)).setCell (p := ⟨w.heap.size + 1, 1, none⟩) (by simp) (.int .i64 0)).setCell (p := ⟨w.heap.size + 1, 2, none⟩) (by simp) (.slice none 0 0))
  have D8 := Z.out.set3 (.int .i64 0) (.int .i64 0) (.slice none 0 0)
  have hc0 := D8.c0; have hc1 := D8.c1; have hc2 := D8.c2
  clear D8
  go_wp2_with fail
  obtain ⟨e1, e2, e3⟩ := iv_no HDO.out
  exact bodyPost_ret (v := .tuple #[.agg #[.int .i64 0, .int .i64 0, .slice none 0 0], .bool false]) (by simp [results, Tryz.results41, go_sem, hc0, hc1, hc2]) rfl (by rw [e1, e2, e3]; exact ⟨_, _, rfl, V9.out, B9.out⟩)
 case pos =>
  subst hne
  by_cases h12 : R ≤ 12
  case neg =>
   have HDO := Lib.hid (show ivOk R R L = false by unfold ivOk; rw [decide_eq_false (show ¬ (R : Int) ≤ 12 by omega)]; simp)
   have hb1 : (12 : Int) < (R : Int) := by omega
   clear hLn hRC hE
   go_enter Tryz.func41, Tryz.ntmps41
   go_wp2_with fail
   obtain ⟨W0, hW0⟩ : ∃ x, x = (w.alloc (.cells #[.int .i64 (R : Int), .int .i64 (R : Int), .slice a n cap] 25)).alloc (.cells #[.int .i64 0, .int .i64 0, .slice none 0 0] 25) := ⟨_, rfl⟩
   have D := Lib.hid (show B3 W0 w.heap.size 25 (.int .i64 (R : Int)) (.int .i64 (R : Int)) (.slice a n cap) by rw [hW0]; exact (B3.new _ _ _ _ _).alloc _)
   have Z := Lib.hid (show B3 W0 (w.heap.size + 1) 25 (.int .i64 0) (.int .i64 0) (.slice none 0 0) by rw [hW0]; exact b3_at (B3.new _ _ _ _ _) (by simp))
   have B0 := Lib.hid (show Below w.heap.size w W0 by rw [hW0]; exact ((Below.refl _ _).alloc (Nat.le_refl _) _).alloc (by simp) _)
   rw [← hW0]
   clear hW0
   have d0 := D.out.c0
   have d1 := D.out.c1
   have d2 := D.out.c2
   go_wp2_with fail
   have T := spec_matrixOk ratOk (fun b v zs d ds w h => spec_ratOk b v zs d ds w h) (R : Int) (R : Int) _ L W0 (HR.out.below B0.out)
   rw [q0] at T
   refine T.mono ?_
   rintro e w1 ⟨rfl, b1⟩
   replace D := Lib.hid (D.out.below b1)
   replace Z := Lib.hid (Z.out.below b1)
   replace B0 := Lib.hid (B0.out.trans (b1.mono B0.out.size))
   clear b1 T d0 d1 d2
   have d0 := D.out.c0
   have d1 := D.out.c1
   have d2 := D.out.c2
   have z0 := Z.out.c0
   have z1 := Z.out.c1
   have z2 := Z.out.c2
   have x0 := Z.out.f 0
   have x1 := Z.out.f 1
   have x2 := Z.out.f 2
   have V9 := Lib.hid (OwnV.set3_b3 (OwnV.nil _ w.heap.size) Z.out (by decide) (by decide) (.int .i64 0) (.int .i64 0) (.slice none 0 0))
   have B9 := Lib.hid (((B0.out.setCell (p := ⟨w.heap.size + 1, 0, none⟩) (by simp) (.int .i64 0)).setCell (p := ⟨w.heap.size + 1, 1, none⟩) (by simp) (.int .i64 0)).setCell (p := ⟨w.heap.size + 1, 2, none⟩) (by simp) (.slice none 0 0))
   have D8 := Z.out.set3 (.int .i64 0) (.int .i64 0) (.slice none 0 0)
   have hc0 := D8.c0; have hc1 := D8.c1; have hc2 := D8.c2
   clear D8
   go_wp2_with fail
   obtain ⟨e1, e2, e3⟩ := iv_no HDO.out
   exact bodyPost_ret (v := .tuple #[.agg #[.int .i64 0, .int .i64 0, .slice none 0 0], .bool false]) (by simp [results, Tryz.results41, go_sem, hc0, hc1, hc2]) rfl (by rw [e1, e2, e3]; exact ⟨_, _, rfl, V9.out, B9.out⟩)
  case pos =>
   have HDO := Lib.hid (show ivOk R R L = true by unfold ivOk; rw [q0, decide_eq_true rfl, decide_eq_true (show (R : Int) ≤ 12 by omega)]; rfl)
   have hb1 : ¬ (12 : Int) < (R : Int) := by omega
   have hIV := fun W (hW : Below w.heap.size w W) => spec_inverseV R n cap a L W (HR.out.below hW) h12 HN.out hLn (all_okF hE)
   obtain ⟨ZN, hZN⟩ : ∃ x, x = svN R R L (idL oF R R) := ⟨_, rfl⟩
   obtain ⟨ZR, hZR⟩ : ∃ x, x = svR R R L (idL oF R R) := ⟨_, rfl⟩
   obtain ⟨ZB, hZB⟩ : ∃ x, x = svB R R L (idL oF R R) := ⟨_, rfl⟩
   rw [← hZN, ← hZR, ← hZB] at hIV
   have HA := Lib.hid (iv_yes HDO.out)
   rw [Int.toNat_natCast, ← hZN, ← hZR, ← hZB] at HA
   have HIV := Lib.hid hIV
   clear hIV hZN hZR hZB hLn hRC hE
   go_enter Tryz.func41, Tryz.ntmps41
   go_wp2_with fail
   obtain ⟨W0, hW0⟩ : ∃ x, x = (w.alloc (.cells #[.int .i64 (R : Int), .int .i64 (R : Int), .slice a n cap] 25)).alloc (.cells #[.int .i64 0, .int .i64 0, .slice none 0 0] 25) := ⟨_, rfl⟩
   have D := Lib.hid (show B3 W0 w.heap.size 25 (.int .i64 (R : Int)) (.int .i64 (R : Int)) (.slice a n cap) by rw [hW0]; exact (B3.new _ _ _ _ _).alloc _)
   have Z := Lib.hid (show B3 W0 (w.heap.size + 1) 25 (.int .i64 0) (.int .i64 0) (.slice none 0 0) by rw [hW0]; exact b3_at (B3.new _ _ _ _ _) (by simp))
   have B0 := Lib.hid (show Below w.heap.size w W0 by rw [hW0]; exact ((Below.refl _ _).alloc (Nat.le_refl _) _).alloc (by simp) _)
   rw [← hW0]
   clear hW0
   have d0 := D.out.c0
   have d1 := D.out.c1
   have d2 := D.out.c2
   go_wp2_with fail
   have T := spec_matrixOk ratOk (fun b v zs d ds w h => spec_ratOk b v zs d ds w h) (R : Int) (R : Int) _ L W0 (HR.out.below B0.out)
   rw [q0] at T
   refine T.mono ?_
   rintro e w1 ⟨rfl, b1⟩
   replace D := Lib.hid (D.out.below b1)
   replace Z := Lib.hid (Z.out.below b1)
   replace B0 := Lib.hid (B0.out.trans (b1.mono B0.out.size))
   clear b1 T d0 d1 d2
   have d0 := D.out.c0
   have d1 := D.out.c1
   have d2 := D.out.c2
   go_wp2_with fail
   refine (HIV.out w1 B0.out).mono ?_
   rintro e w2 ⟨u, xs, rfl, o2, b2⟩
   obtain ⟨a2, c2, rfl⟩ := o2.slice
   have Z2 := Lib.hid (Z.out.below b2)
   have B2 := Lib.hid (B0.out.trans (b2.mono B0.out.size))
   have O2 := Lib.hid (o2.base B0.out.size)
   clear o2 b2 Z B0 D d0 d1 d2
   have z0 := Z2.out.c0
   have z1 := Z2.out.c1
   have z2 := Z2.out.c2
   have x0 := Z2.out.f 0
   have x1 := Z2.out.f 1
   have x2 := Z2.out.f 2
   have V9 := Lib.hid (OwnV.set3_b3 O2.out Z2.out (by decide) (by decide) (.int .i64 ZN) (.int .i64 ZN) (.slice a2 ZR.length c2))
   have B9 := Lib.hid (((B2.out.setCell (p := ⟨w.heap.size + 1, 0, none⟩) (by simp) (.int .i64 ZN)).setCell (p := ⟨w.heap.size + 1, 1, none⟩) (by simp) (.int .i64 ZN)).setCell (p := ⟨w.heap.size + 1, 2, none⟩) (by simp) (.slice a2 ZR.length c2))
   have D8 := Z2.out.set3 (.int .i64 ZN) (.int .i64 ZN) (.slice a2 ZR.length c2)
   have hc0 := D8.c0; have hc1 := D8.c1; have hc2 := D8.c2
   clear D8
   go_wp2_with fail
   obtain ⟨e1, e2, e3⟩ := HA.out
   exact bodyPost_ret (v := .tuple #[.agg #[.int .i64 ZN, .int .i64 ZN, .slice a2 ZR.length c2], .bool ZB]) (by simp [results, Tryz.results41, go_sem, hc0, hc1, hc2]) rfl (by rw [e1, e2, e3]; exact ⟨_, _, rfl, V9.out, B9.out⟩)
end Go.Proofs.YtlepgkkpopjgoaaGreat
namespace Go.Proofs.YtlepgkkpopjgoaaGreat
open Go.RowKit Go.WideShapes Go.ChangeShapes
set_option linter.unusedVariables false
set_option linter.unusedSimpArgs false
set_option maxRecDepth 100000 in
set_option maxHeartbeats 1000000 in
theorem impl_isSystem (r c : Int) (v : Value) (L : List Fr) (w : World) (h : RatsAt w v L) :
  Calls Tryz.prog 55 #[.agg #[.int .i64 r, .int .i64 c, v]] w fun e w' => e = .returned (.bool (ivOk r c L)) ∧ Below w.heap.size w w' := by
 obtain ⟨a, cap, rfl, hc, hm, hr⟩ := h
 have HR := Lib.hid (show RatsAt w (.slice a L.length cap) L from ⟨a, cap, rfl, hc, hm, hr⟩)
 clear hr hc hm
 obtain ⟨n, hnn⟩ : ∃ n, L.length = n := ⟨_, rfl⟩
 rw [hnn] at HR ⊢
 clear hnn
 obtain ⟨W0, hW0⟩ : ∃ x, x = w.alloc (.cells #[.int .i64 r, .int .i64 c, .slice a n cap] 25) := ⟨_, rfl⟩
 have D := Lib.hid (show B3 W0 w.heap.size 25 (.int .i64 r) (.int .i64 c) (.slice a n cap) by rw [hW0]; exact B3.new _ _ _ _ _)
 have B0 := Lib.hid (show Below w.heap.size w W0 by rw [hW0]; exact (Below.refl _ _).alloc (Nat.le_refl _) _)
 have HW := Lib.hid hW0.symm
 clear hW0
 have d0 := D.out.c0
 have d1 := D.out.c1
 have d2 := D.out.c2
 by_cases hne : r = c
 ·by_cases h12 : r ≤ 12
  ·have h1 : (r == c) = true := by rw [beq_iff_eq]; exact hne
   have hM := impl_matrixOkH ratOk (fun v L w h => impl_isV v L w h) r c _ L W0 (HR.out.below B0.out)
   obtain ⟨ZB, hZB⟩ : ∃ x, x = matB ratOk r c L := ⟨_, rfl⟩
   have HE := Lib.hid (show ivOk r c L = ZB by unfold ivOk; rw [decide_eq_true hne, decide_eq_true h12, hZB]; simp)
   rw [← hZB] at hM
   rw [HE.out]
   clear hZB hne
   go_enter Tryz.func55, Tryz.ntmps55
   go_wp2_with (rw [HW.out])
   refine hM.mono ?_
   rintro e w1 ⟨rfl, b1⟩
   have B1 := Lib.hid (B0.out.trans (b1.mono B0.out.size))
   clear b1 hM
   go_wp2
   go_ret
   exact ⟨rfl, B1.out⟩
  ·have h1 : (r == c) = true := by rw [beq_iff_eq]; exact hne
   have HE := Lib.hid (show ivOk r c L = false by unfold ivOk; rw [decide_eq_false h12]; simp)
   rw [HE.out]
   clear hne
   go_enter Tryz.func55, Tryz.ntmps55
   go_wp2_with (rw [HW.out])
   try go_ret
   exact ⟨rfl, B0.out⟩
 ·have h1 : (r == c) = false := by rw [beq_eq_false_iff_ne]; exact hne
  have HE := Lib.hid (show ivOk r c L = false by unfold ivOk; rw [decide_eq_false hne]; simp)
  rw [HE.out]
  go_enter Tryz.func55, Tryz.ntmps55
  go_wp2_with (rw [HW.out])
  try go_ret
  exact ⟨rfl, B0.out⟩
set_option maxRecDepth 100000 in
set_option maxHeartbeats 1000000 in
theorem impl_starts (p N cap B R C n : Nat) (a : Option Addr) (e : El) (pv fv : Value) (xs ps : List (Value × Value)) (w : World) (h : PrS w B p a N cap R C e pv fv xs ps) (hn : n ≤ 24) (hp : e.piv.length ≤ 24) :
  Calls Tryz.prog 101 #[.pointer (some ⟨p, 0, none⟩), .int .i64 (n : Int)] w fun r w' => r = .returned (.bool (stB n e.piv)) ∧ Below w.heap.size w w' := by
 obtain ⟨pa, pc, hpv⟩ := h.S.P.slice
 rw [natV_len] at hpv
 obtain ⟨pl, hpl⟩ : ∃ x, x = e.piv.length := ⟨_, rfl⟩
 rw [← hpl] at hpv hp
 have HPL := Lib.hid hpl
 subst hpv
 have d3 := h.D.c3
 have HRD := Lib.hid h.S.P.row
 clear hpl
 by_cases hn0 : n = 0
 ·have HE := Lib.hid (show stB n e.piv = true by unfold stB; rw [decide_eq_true hn0]; rfl)
  have h1 : ((n : Int) == 0) = true := by rw [beq_iff_eq]; omega
  rw [HE.out]
  clear hn0
  go_enter Tryz.func101, Tryz.ntmps101
  go_wp2
  try go_ret
  exact ⟨rfl, Below.refl _ _⟩
 ·have h1 : ((n : Int) == 0) = false := by rw [beq_eq_false_iff_ne]; omega
  by_cases hfew : pl < n
  ·have HE := Lib.hid (show stB n e.piv = false by
    unfold stB
    rw [decide_eq_false hn0, decide_eq_false (show ¬ n ≤ e.piv.length by rw [← HPL.out]; omega)]
    rfl)
   rw [HE.out]
   go_enter Tryz.func101, Tryz.ntmps101
   go_wp2
   try go_ret
   exact ⟨rfl, Below.refl _ _⟩
  ·obtain ⟨_, _, e9, _, _, hrow⟩ := HRD.out
   injection e9 with q1 q2 q3
   subst q1
   clear q2 q3
   have hpe : n - 1 < (natV e.piv).length := by rw [natV_len, ← HPL.out]; omega
   obtain ⟨b9, o9, rfl, hcell⟩ := hrow (n - 1) hpe
   have hpe' : n - 1 < e.piv.length := by rw [← HPL.out]; omega
   obtain ⟨pp, hpp⟩ : ∃ x, x = e.piv[n - 1]'hpe' := ⟨_, rfl⟩
   have hval : (natV e.piv)[n - 1]'hpe = (pp : Int) := by rw [hpp]; simp [natV]
   rw [hval] at hcell
   have hcell' : w.cell? ⟨b9, o9 + (n - 1), none⟩ = some (.int .i64 (pp : Int)) := hcell
   have hi1 : (0 : Int) ≤ (n : Int) - 1 := by omega
   have hi2 : (n : Int) - 1 < (pl : Int) := by omega
   have hi3 : ((n : Int) - 1).toNat = n - 1 := by omega
   have HE := Lib.hid (show stB n e.piv = ((pp : Int) == (n : Int) - 1) by
    unfold stB
    rw [decide_eq_false hn0, decide_eq_true (show n ≤ e.piv.length by rw [← HPL.out]; omega), List.getElem?_eq_getElem hpe', ← hpp]
    by_cases heq : pp = n - 1
    ·rw [heq, decide_eq_true rfl, show (((n - 1 : Nat) : Int) == (n : Int) - 1) = true by rw [beq_iff_eq]; omega]; rfl
    ·rw [decide_eq_false (show ¬ some pp = some (n - 1) from fun h => heq (by injection h)), show ((pp : Int) == (n : Int) - 1) = false by rw [beq_eq_false_iff_ne]; omega]; rfl)
   rw [HE.out]
   clear hcell hval hpp hrow HRD
   go_enter Tryz.func101, Tryz.ntmps101
   go_wp2
   try go_ret
   exact ⟨rfl, Below.refl _ _⟩
end Go.Proofs.YtlepgkkpopjgoaaGreat
