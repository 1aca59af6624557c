/- A trial: AddVectors of the model, contracts open. -/
import Derived.Test.YtdajldenjeanhaaVecTry3
import Derived.Test.YtdajldenjeanhaaVecApp
namespace Go.Proofs.Ytdajldenjeanhaa
open Go.RowKit Go.WideShapes Go.ChangeShapes
set_option linter.unusedVariables false
def zipF (f : Fr → Fr → Fr) (A B : List Fr) : List Fr := List.zipWith f A B
theorem zip_take {f : Fr → Fr → Fr} {A B : List Fr} {k : Nat} (h0 : k < A.length) (h1 : k < B.length) : zipF f (A.take (k + 1)) (B.take (k + 1)) = zipF f (A.take k) (B.take k) ++ [f (A[k]'h0) (B[k]'h1)] := by
  unfold zipF
  rw [List.take_succ_eq_append_getElem h0, List.take_succ_eq_append_getElem h1, List.zipWith_append (by simp; omega)]
  rfl
theorem zip_len {f : Fr → Fr → Fr} {A B : List Fr} : (zipF f A B).length ≤ A.length := by unfold zipF; simp; omega
set_option maxRecDepth 100000 in
set_option maxHeartbeats 2000000 in
theorem spec_addVectors (add : Fr → Fr → Fr) (pair : List Fr → List Fr → Bool)
    (HP : ∀ v0 L0 v1 L1 w, RatsAt w v0 L0 → RatsAt w v1 L1 → Calls Try.prog 45 #[v0, v1] w fun r w' => r = .returned (.bool (pair L0 L1)) ∧ Below w.heap.size w w')
    (hpair : ∀ L0 L1, pair L0 L1 = true → L0.length = L1.length ∧ L0.length ≤ 24)
    (HADD : ∀ (f0 f1 : Fr) v d v' d' w, RowR w v f0.mag d f0.den → RowR w v' f1.mag d' f1.den → Calls Try.prog 46 #[.agg #[.bool f0.neg, v, d], .agg #[.bool f1.neg, v', d']] w fun r w' => ∃ x y, r = .returned (.agg #[.bool (add f0 f1).neg, x, y]) ∧ OwnR w' w.heap.size x (add f0 f1).mag y (add f0 f1).den ∧ Below w.heap.size w w')
    (fine : List Fr → Bool) (HD : ∀ v L w, RatsAt w v L → fine L = true → Calls Try.prog 47 #[v] w fun r w' => r = .returned (.tuple #[v, .bool true]) ∧ Below w.heap.size w w') (hfine : ∀ L0 L1, pair L0 L1 = true → fine (zipF add L0 L1) = true)
    (v0 : Value) (L0 : List Fr) (v1 : Value) (L1 : List Fr) (w : World) (h0 : RatsAt w v0 L0) (h1 : RatsAt w v1 L1) (hp : pair L0 L1 = true) :
    Calls Try.prog 22 #[v0, v1] w fun e w' => ∃ v xs, e = .returned (.tuple #[v, .bool true]) ∧ OwnV w' w.heap.size v (zipF add L0 L1) xs ∧ Below w.heap.size w w' := by
  obtain ⟨hl1, hl2⟩ := hpair _ _ hp
  have HP0 := Lib.hid (HP v0 L0 v1 L1 w h0 h1)
  obtain ⟨a, cap, rfl, hc, hm, hr⟩ := h0
  obtain ⟨a', cap', rfl, hc', hm', hr'⟩ := h1
  unfold maxLen at hm hm'
  have R := Lib.hid hr
  have R' := Lib.hid hr'
  clear hr hr'
  obtain ⟨n, hnn⟩ : ∃ n, L0.length = n := ⟨_, rfl⟩
  have HN1 := Lib.hid hl1
  rw [hnn] at hl1
  rw [← hl1] at hc' HP0 ⊢
  rw [hnn] at hc hl2 HP0 ⊢
  have HN := Lib.hid hnn
  clear hnn hl1
  go_enter Try.func22, Try.ntmps22
  go_wp2_with fail
  refine HP0.out.mono ?_
  rintro e w1 ⟨rfl, b1⟩
  rw [hp]
  have B := Lib.hid b1
  clear b1
  go_wp2_with fail
  obtain ⟨W1, hW1⟩ : ∃ x, x = w1.alloc (.cells #[] 46) := ⟨_, rfl⟩
  have HO := Lib.hid (show OwnV W1 w.heap.size (.slice (some ⟨w1.heap.size, 0, none⟩) 0 0) [] [] by rw [hW1]; exact (OwnV.lit0 w1).base B.out.size)
  have HB := Lib.hid (show Below w.heap.size w W1 by rw [hW1]; exact B.out.alloc B.out.size _)
  rw [← hW1]
  clear hW1 B
  go_loopw [6, 16] (fun ov iv wr => ∃ (k : Nat) (vo : Value), k ≤ n ∧ iv = .int .i64 k ∧ vo = ov ∧ ∃ xs, Hid (OwnV wr w.heap.size vo (zipF add (L0.take k) (L1.take k)) xs) ∧ Hid (Below w.heap.size w wr)) (fun _ iv _ => n - (intOf iv).toNat)
  case atStart => exact ⟨0, _, Nat.zero_le _, rfl, rfl, _, HO, HB⟩
  case round =>
    obtain ⟨k, vo, hk, rfl, rfl, xs, HK, HBk⟩ := hrel
    by_cases hlt : k < n
    · have hlt0 : k < L0.length := by rw [HN.out]; exact hlt
      have hlt1 : k < L1.length := by rw [← HN1.out, HN.out]; exact hlt
      obtain ⟨b, o, x, y, rfl, c0, c1, c2, hrr⟩ := R.out k hlt0
      obtain ⟨b', o', x', y', rfl, e0, e1, e2, hss⟩ := R'.out k hlt1
      have d0 := (HBk.out.cell (World.block_lt_of_cell? w _ c0)).trans c0
      have d1 := (HBk.out.cell (World.block_lt_of_cell? w _ c1)).trans c1
      have d2 := (HBk.out.cell (World.block_lt_of_cell? w _ c2)).trans c2
      have f0 := (HBk.out.cell (World.block_lt_of_cell? w _ e0)).trans e0
      have f1 := (HBk.out.cell (World.block_lt_of_cell? w _ e1)).trans e1
      have f2 := (HBk.out.cell (World.block_lt_of_cell? w _ e2)).trans e2
      have RR := Lib.hid (hrr.below HBk.out)
      have SS := Lib.hid (hss.below HBk.out)
      have hb0 := World.block_lt_of_cell? w _ e0
      obtain ⟨a1, r1, a2, r2, rfl, rfl, hz1, hz2⟩ := rowR_len hrr
      obtain ⟨a3, r3, a4, r4, rfl, rfl, hz3, hz4⟩ := rowR_len hss
      clear c0 c1 c2 R hrr e0 e1 e2 R' hss
      go_wp2_with fail
      obtain ⟨wb, hwb⟩ : ∃ x, x = wr.alloc (.cells #[.bool (L0[k]'hlt0).neg, .slice a1 (L0[k]'hlt0).mag.length r1, .slice a2 (L0[k]'hlt0).den.length r2] 46) := ⟨_, rfl⟩
      obtain ⟨G, hG⟩ : ∃ x, x = wr.heap.size := ⟨_, rfl⟩
      have bA := (Below.refl wr.heap.size wr).alloc (Nat.le_refl _) (.cells #[.bool (L0[k]'hlt0).neg, .slice a1 (L0[k]'hlt0).mag.length r1, .slice a2 (L0[k]'hlt0).den.length r2] 46)
      have X := Lib.hid (show Rx wb G 46 (L0[k]'hlt0).neg (.slice a1 (L0[k]'hlt0).mag.length r1) (.slice a2 (L0[k]'hlt0).den.length r2) by rw [hwb, hG]; exact Rx.new _ _ _ _ _)
      have O9 := Lib.hid (show OwnV wb w.heap.size vo _ xs by rw [hwb]; exact HK.out.alloc _)
      have B9 := Lib.hid (show Below w.heap.size w wb by rw [hwb]; exact HBk.out.alloc HBk.out.size _)
      have bW := Lib.hid (show Below wr.heap.size wr wb by rw [hwb]; exact bA)
      have L9 := Lib.hid O9.out.lt
      have NG := Lib.hid (show some G ≠ vo.ownBlock from fun e => by have := (HK.out.lt G (.inl e.symm)).2; omega)
      have NB := Lib.hid (show some b' ≠ vo.ownBlock from fun e => by have := (HK.out.lt b' (.inl e.symm)).1; omega)
      have BW := Lib.hid B9.out.size
      rw [← hwb, ← hG]
      clear hwb hG bA HK HBk
      have g0 := X.out.c0
      have g1 := X.out.c1
      have g2 := X.out.c2
      replace f0 := (bW.out.cell (World.block_lt_of_cell? _ _ f0)).trans f0
      replace f1 := (bW.out.cell (World.block_lt_of_cell? _ _ f1)).trans f1
      replace f2 := (bW.out.cell (World.block_lt_of_cell? _ _ f2)).trans f2
      clear d0 d1 d2
      have K_r := Lib.hid (fun (W : World) (hW : Below wb.heap.size wb W) => (HADD (L0[k]'hlt0) (L1[k]'hlt1) _ _ _ _ W ((RR.out.below bW.out).below hW) ((SS.out.below bW.out).below hW)).mono (R' := fun r w' => ∃ x y, r = .returned (.agg #[.bool (add (L0[k]'hlt0) (L1[k]'hlt1)).neg, x, y]) ∧ OwnR w' wb.heap.size x (add (L0[k]'hlt0) (L1[k]'hlt1)).mag y (add (L0[k]'hlt0) (L1[k]'hlt1)).den ∧ Below wb.heap.size wb w') (fun r w' ⟨x, y, he, hr, hb⟩ => ⟨x, y, he, hr.base hW.size, hW.trans (hb.mono hW.size)⟩))
      have HS := Lib.hid (show ∀ W : World, Below wb.heap.size wb W → (W.cell? ⟨G, 0, none⟩ = some (.bool (L0[k]'hlt0).neg) ∧ W.cell? ⟨G, 1, none⟩ = some (.slice a1 (L0[k]'hlt0).mag.length r1) ∧ W.cell? ⟨G, 2, none⟩ = some (.slice a2 (L0[k]'hlt0).den.length r2) ∧ W.cell? ⟨b', o' + k * 3, none⟩ = some (.bool (L1[k]'hlt1).neg) ∧ W.cell? ⟨b', o' + k * 3 + 1, none⟩ = some (.slice a3 (L1[k]'hlt1).mag.length r3) ∧ W.cell? ⟨b', o' + k * 3 + 2, none⟩ = some (.slice a4 (L1[k]'hlt1).den.length r4)) from fun W hW => ⟨(hW.cell (World.block_lt_of_cell? wb _ g0)).trans g0, (hW.cell (World.block_lt_of_cell? wb _ g1)).trans g1, (hW.cell (World.block_lt_of_cell? wb _ g2)).trans g2, (hW.cell (World.block_lt_of_cell? wb _ f0)).trans f0, (hW.cell (World.block_lt_of_cell? wb _ f1)).trans f1, (hW.cell (World.block_lt_of_cell? wb _ f2)).trans f2⟩)
      go_region_held3 (fun w' => w'.cell? ⟨G, 0, none⟩ = some (.bool (L0[k]'hlt0).neg) ∧ w'.cell? ⟨G, 1, none⟩ = some (.slice a1 (L0[k]'hlt0).mag.length r1) ∧ w'.cell? ⟨G, 2, none⟩ = some (.slice a2 (L0[k]'hlt0).den.length r2) ∧ w'.cell? ⟨b', o' + k * 3, none⟩ = some (.bool (L1[k]'hlt1).neg) ∧ w'.cell? ⟨b', o' + k * 3 + 1, none⟩ = some (.slice a3 (L1[k]'hlt1).mag.length r3) ∧ w'.cell? ⟨b', o' + k * 3 + 2, none⟩ = some (.slice a4 (L1[k]'hlt1).den.length r4)) (first | exact HS.out _ (by first | with_reducible exact Below.refl _ _ | with_reducible exact (Below.refl _ _).drew | with_reducible exact bb_r | with_reducible exact bb_r.drew | with_reducible exact (bb_r.alloc bb_r.size _) | with_reducible exact (bb_r.alloc bb_r.size _).drew | fail) | exact ⟨g_n.cell (HS.out _ (bb_r.alloc bb_r.size _)).1 NG.out, g_n.cell (HS.out _ (bb_r.alloc bb_r.size _)).2.1 NG.out, g_n.cell (HS.out _ (bb_r.alloc bb_r.size _)).2.2.1 NG.out, g_n.cell (HS.out _ (bb_r.alloc bb_r.size _)).2.2.2.1 NB.out, g_n.cell (HS.out _ (bb_r.alloc bb_r.size _)).2.2.2.2.1 NB.out, g_n.cell (HS.out _ (bb_r.alloc bb_r.size _)).2.2.2.2.2 NB.out⟩ | fail)
        (first
          | (go_at_call 46; refine (K_r.out _ (by first | with_reducible exact Below.refl _ _ | with_reducible exact (Below.refl _ _).drew | with_reducible exact bb_r | with_reducible exact bb_r.drew | with_reducible exact (bb_r.alloc bb_r.size _) | with_reducible exact (bb_r.alloc bb_r.size _).drew | fail)).mono ?_; rintro e w_r ⟨x_r, y_r, rfl, o_r, bb_r⟩; obtain ⟨a_r, c_r, e_r, f_r, rfl, rfl⟩ := o_r.slices)
          | (have hbb := bb_r.size; have lr := o_r.lt; refine step_append_rat rfl _ _ rfl w.heap.size vo _ xs rfl (by first | with_reducible exact (O9.out.below bb_r).alloc _ | with_reducible exact ((O9.out.below bb_r).alloc _).drew | fail) (Nat.le_trans zip_len (by simp; omega)) (by have := BW.out; simp; omega) _ _ rfl (add (L0[k]'hlt0) (L1[k]'hlt1)) _ _ (by first | exact World.alloc_heap_new _ _ | fail) (by first | with_reducible exact (o_r.alloc _).base BW.out | with_reducible exact OwnR.base (o_r.alloc _) BW.out | fail) (fun i hi r r' h1 h2 => by have h3 := (L9.out r (.inr ⟨_, List.getElem_mem hi, h1⟩)).2; have h4 := (lr r' h2).1; omega) (fun r h2 h1 => by have h3 := (L9.out r (.inl h1)).2; have h4 := (lr r h2).1; omega) ?_; intro v_n w_n o_n g_n l_n))
      all_goals go_wp2_with fail
      all_goals exact ⟨⟨k + 1, v_n, by omega, by go_num, rfl, _, Lib.hid (by rw [zip_take hlt0 hlt1]; exact o_n), Lib.hid (((B9.out.trans (bb_r.mono B9.out.size)).alloc (Nat.le_trans BW.out bb_r.size) _).grown g_n (by have := BW.out; have := bb_r.size; simp; omega) (fun q hq => (L9.out q (.inl hq)).1))⟩, by simp [intOf]; omega⟩
    · obtain rfl : k = n := by omega
      have hT0 : L0.take k = L0 := by rw [← HN.out, List.take_length]
      have hT1 : L1.take k = L1 := by rw [← HN.out, HN1.out, List.take_length]
      rw [hT0, hT1] at HK
      go_wp2_with fail
      refine (HD vo _ _ HK.out.rats (hfine _ _ hp)).mono ?_
      rintro e w2 ⟨rfl, b2⟩
      have O2 := Lib.hid (HK.out.below b2)
      have B2 := Lib.hid (HBk.out.trans (b2.mono HBk.out.size))
      clear b2
      go_wp2_with fail
      exact bodyPost_ret (v := .tuple #[vo, .bool true]) (by simp [results, Try.results22, go_sem]) rfl ⟨vo, xs, rfl, O2.out, B2.out⟩

end Go.Proofs.Ytdajldenjeanhaa
