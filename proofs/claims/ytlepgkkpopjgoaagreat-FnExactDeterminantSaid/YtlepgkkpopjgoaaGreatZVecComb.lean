/- The program's combination of two lists of fractions, element by element; AddVectors and SubtractVectors. -/
import Derived.Test.YtlepgkkpopjgoaaGreatZVecOk
import Derived.Test.YtlepgkkpopjgoaaGreatZVecSub
import Derived.Test.YtlepgkkpopjgoaaGreatZVecUnit
namespace Go.Proofs.YtlepgkkpopjgoaaGreat
open Go.RowKit Go.WideShapes Go.ChangeShapes
set_option linter.unusedVariables false
set_option linter.unusedSimpArgs false
theorem cell_farK {w : World} {p q i j l o : Nat} (h : q ≠ p) (x y z : Value) : (((w.setCell ⟨p, i, none⟩ x).setCell ⟨p, j, none⟩ y).setCell ⟨p, l, none⟩ z).cell? ⟨q, o, none⟩ = w.cell? ⟨q, o, none⟩ := by
  exact (World.cell?_of_block (a := ⟨q, o, none⟩) (Below.heap_setCell _ ⟨p, l, none⟩ z q h)).trans ((World.cell?_of_block (a := ⟨q, o, none⟩) (Below.heap_setCell _ ⟨p, j, none⟩ y q h)).trans (World.cell?_of_block (a := ⟨q, o, none⟩) (Below.heap_setCell _ ⟨p, i, none⟩ x q h)))
theorem zip_at {op : Fr → Fr → Fr} {A B : List Fr} {k : Nat} (h0 : k < A.length) (h1 : k < B.length) (h : k < (zipF op A B).length) : (zipF op A B)[k]'h = op (A[k]'h0) (B[k]'h1) := by
  exact List.getElem_zipWith
theorem zip_badAt {op : Fr → Fr → Fr} {A B : List Fr} {k : Nat} (h0 : k < A.length) (h1 : k < B.length) (hb : badF (op (A[k]'h0) (B[k]'h1)) = true) : fineV (zipF op A B) = false := by
  have hk : k < (zipF op A B).length := by unfold zipF; simp; omega
  exact all_no hk (by rw [zip_at h0 h1, hb]; rfl)
def cmbL (op : Fr → Fr → Fr) (A B : List Fr) : List Fr := if fineV (zipF op A B) then zipF op A B else []
theorem zip_lenE {op : Fr → Fr → Fr} {A B : List Fr} {n k : Nat} (ha : A.length = n) (hb : B.length = n) (hk : k ≤ n) : (zipF op (A.take k) (B.take k)).length = k := by unfold zipF; simp; omega

set_option maxRecDepth 100000 in
set_option maxHeartbeats 2000000 in
theorem impl_combSub (op : Fr → Fr → Fr)
    (HOP : ∀ (f g : Fr), okF f = true → okF g = true → ∀ v d v' d' w, RowR w v f.mag d f.den → RowR w v' g.mag d' g.den → Calls Tryz.prog 184 #[.agg #[.bool f.neg, v, d], .agg #[.bool g.neg, v', d']] w fun r w' => ∃ x y, r = .returned (.agg #[.bool (op f g).neg, x, y]) ∧ OwnR w' w.heap.size x (op f g).mag y (op f g).den ∧ Below w.heap.size w w')
    (v0 : Value) (L0 : List Fr) (v1 : Value) (L1 : List Fr) (w : World) (h0 : RatsAt w v0 L0) (h1 : RatsAt w v1 L1)
    (hl1 : L0.length = L1.length) (hl2 : L0.length ≤ 600) (E0 : ∀ k (hk : k < L0.length), okF (L0[k]'hk) = true) (E1 : ∀ k (hk : k < L1.length), okF (L1[k]'hk) = true) :
    Calls Tryz.prog 113 #[v0, v1, .func (.func 184) #[] #[]] w fun e w' => ∃ v xs, e = .returned (.tuple #[v, .bool (fineV (zipF op L0 L1))]) ∧ OwnV w' w.heap.size v (cmbL op L0 L1) xs ∧ Below w.heap.size w w' := by
  obtain ⟨ZB, hZB⟩ : ∃ b, b = fineV (zipF op L0 L1) := ⟨_, rfl⟩
  obtain ⟨ZL, hZL⟩ : ∃ b, b = cmbL op L0 L1 := ⟨_, rfl⟩
  rw [← hZB, ← hZL]
  have HZ := Lib.hid (And.intro hZB hZL)
  clear hZB hZL
  have E0 := Lib.hid E0
  have E1 := Lib.hid E1
  obtain ⟨a, cap, rfl, hc, hm, hr⟩ := h0
  obtain ⟨a', cap', rfl, hc', hm', hr'⟩ := h1
  unfold maxLen at hm hm'
  have R := Lib.hid hr
  have R' := Lib.hid hr'
  clear hr hr'
  obtain ⟨n, hnn⟩ : ∃ n, L0.length = n := ⟨_, rfl⟩
  have HN1 := Lib.hid hl1
  rw [hnn] at hl1
  rw [← hl1] at hc' ⊢
  rw [hnn] at hc hl2 ⊢
  have HN := Lib.hid hnn
  have HM := make_rats n (by omega) w
  clear hnn hl1
  go_enter Tryz.func113, Tryz.ntmps113
  go_wp2_with fail
  obtain ⟨W1, hW1⟩ : ∃ x, x = w.alloc (zeroV n) := ⟨_, rfl⟩
  have HO := Lib.hid (show OwnV W1 w.heap.size (.slice (some ⟨w.heap.size, 0, none⟩) n n) (zipF op (L0.take 0) (L1.take 0) ++ List.replicate (n - 0) Fr.zero) _ by rw [hW1]; exact zeroV_own w w.heap.size n (Nat.le_refl _) (by omega))
  have HB := Lib.hid (show Below w.heap.size w W1 by rw [hW1]; exact (Below.refl _ _).alloc (Nat.le_refl _) _)
  rw [← hW1]
  clear hW1 HM
  obtain ⟨g, hg⟩ : ∃ x, x = w.heap.size := ⟨_, rfl⟩
  rw [← hg] at HO
  rw [← hg]
  have HG := Lib.hid hg
  clear hg
  go_loopw [15] (fun iv wr => ∃ (k : Nat), k ≤ n ∧ iv = .int .i64 k ∧ ∃ xs, Hid (OwnV wr g (.slice (some ⟨g, 0, none⟩) n n) (zipF op (L0.take k) (L1.take k) ++ List.replicate (n - k) Fr.zero) xs) ∧ Hid (fineV (zipF op (L0.take k) (L1.take k)) = true) ∧ Hid (Below w.heap.size w wr)) (fun iv _ => n - (intOf iv).toNat)
  case atStart => exact ⟨0, Nat.zero_le _, rfl, _, HO, Lib.hid (by simp [zipF, fineV]), HB⟩
  case round =>
    obtain ⟨k, hk, rfl, xs, HK, HA, HBk⟩ := hrel
    by_cases hlt : k < n
    · skip
      have hlt0 : k < L0.length := by rw [HN.out]; exact hlt
      have hlt1 : k < L1.length := by rw [← HN1.out, HN.out]; exact hlt
      obtain ⟨b, o, x, y, rfl, c0, c1, c2, hrr⟩ := R.out k hlt0
      obtain ⟨b', o', x', y', rfl, e0, e1, e2, hss⟩ := R'.out k hlt1
      have d0 := (HBk.out.cell (World.block_lt_of_cell? w _ c0)).trans c0
      have d1 := (HBk.out.cell (World.block_lt_of_cell? w _ c1)).trans c1
      have d2 := (HBk.out.cell (World.block_lt_of_cell? w _ c2)).trans c2
      have f0 := (HBk.out.cell (World.block_lt_of_cell? w _ e0)).trans e0
      have f1 := (HBk.out.cell (World.block_lt_of_cell? w _ e1)).trans e1
      have f2 := (HBk.out.cell (World.block_lt_of_cell? w _ e2)).trans e2
      have RR := Lib.hid (hrr.below HBk.out)
      have SS := Lib.hid (hss.below HBk.out)
      have hb0 := World.block_lt_of_cell? w _ e0
      have hb1 := World.block_lt_of_cell? w _ c0
      have NB0 : b ≠ g := by have := HG.out; have h : b < w.heap.size := hb1; omega
      have NB1 : b' ≠ g := by have := HG.out; have h : b' < w.heap.size := hb0; omega
      clear hb0 hb1
      obtain ⟨a1, r1, a2, r2, rfl, rfl, hz1, hz2⟩ := rowR_len hrr
      obtain ⟨a3, r3, a4, r4, rfl, rfl, hz3, hz4⟩ := rowR_len hss
      clear c0 c1 c2 R hrr e0 e1 e2 R' hss
      have hL9 := HK.out.lt
      have L9 := Lib.hid hL9
      have hg9 := (hL9 g (.inl rfl)).2
      clear hL9
      go_upto_region 5 with fail
      have K_r := Lib.hid (fun (W : World) (hW : Below wr.heap.size wr W) => (HOP (L0[k]'hlt0) (L1[k]'hlt1) (E0.out k hlt0) (E1.out k hlt1) _ _ _ _ W (RR.out.below hW) (SS.out.below hW)).mono (R' := fun r w' => ∃ x y, r = .returned (.agg #[.bool (op (L0[k]'hlt0) (L1[k]'hlt1)).neg, x, y]) ∧ OwnR w' wr.heap.size x (op (L0[k]'hlt0) (L1[k]'hlt1)).mag y (op (L0[k]'hlt0) (L1[k]'hlt1)).den ∧ Below wr.heap.size wr w') (fun r w' ⟨x, y, he, hr, hb⟩ => ⟨x, y, he, hr.base hW.size, hW.trans (hb.mono hW.size)⟩))
      have HS := Lib.hid (show ∀ W : World, Below wr.heap.size wr W → (W.cell? ⟨b, o + k * 3, none⟩ = some (.bool (L0[k]'hlt0).neg) ∧ W.cell? ⟨b, o + k * 3 + 1, none⟩ = some (.slice a1 (L0[k]'hlt0).mag.length r1) ∧ W.cell? ⟨b, o + k * 3 + 2, none⟩ = some (.slice a2 (L0[k]'hlt0).den.length r2) ∧ W.cell? ⟨b', o' + k * 3, none⟩ = some (.bool (L1[k]'hlt1).neg) ∧ W.cell? ⟨b', o' + k * 3 + 1, none⟩ = some (.slice a3 (L1[k]'hlt1).mag.length r3) ∧ W.cell? ⟨b', o' + k * 3 + 2, none⟩ = some (.slice a4 (L1[k]'hlt1).den.length r4)) from fun W hW => ⟨(hW.cell (World.block_lt_of_cell? wr _ d0)).trans d0, (hW.cell (World.block_lt_of_cell? wr _ d1)).trans d1, (hW.cell (World.block_lt_of_cell? wr _ d2)).trans d2, (hW.cell (World.block_lt_of_cell? wr _ f0)).trans f0, (hW.cell (World.block_lt_of_cell? wr _ f1)).trans f1, (hW.cell (World.block_lt_of_cell? wr _ f2)).trans f2⟩)
      have hxl : xs.length = n := by have := HK.out.len; rw [List.length_append, List.length_replicate, zip_lenE HN.out (by rw [← HN1.out]; exact HN.out) (by omega)] at this; omega
      have HC := Lib.hid (fun (W : World) (hW : Below wr.heap.size wr W) => And.intro ((HK.out.below hW).cells k (by rw [List.length_append, List.length_replicate, zip_lenE HN.out (by rw [← HN1.out]; exact HN.out) (by omega)]; omega) (by omega)) (And.intro ((HK.out.below hW).frozen (k * 3)) (And.intro ((HK.out.below hW).frozen (k * 3 + 1)) ((HK.out.below hW).frozen (k * 3 + 2)))))
      go_region_held3 (fun w' => w'.cell? ⟨b, o + k * 3, none⟩ = some (.bool (L0[k]'hlt0).neg) ∧ w'.cell? ⟨b, o + k * 3 + 1, none⟩ = some (.slice a1 (L0[k]'hlt0).mag.length r1) ∧ w'.cell? ⟨b, o + k * 3 + 2, none⟩ = some (.slice a2 (L0[k]'hlt0).den.length r2) ∧ w'.cell? ⟨b', o' + k * 3, none⟩ = some (.bool (L1[k]'hlt1).neg) ∧ w'.cell? ⟨b', o' + k * 3 + 1, none⟩ = some (.slice a3 (L1[k]'hlt1).mag.length r3) ∧ w'.cell? ⟨b', o' + k * 3 + 2, none⟩ = some (.slice a4 (L1[k]'hlt1).den.length r4)) (first | exact HS.out _ (by first | with_reducible exact Below.refl _ _ | with_reducible exact (Below.refl _ _).drew | with_reducible exact bb_r | with_reducible exact bb_r.drew | fail) | exact ⟨(cell_farK NB0 _ _ _).trans (HS.out _ bb_r).1, (cell_farK NB0 _ _ _).trans (HS.out _ bb_r).2.1, (cell_farK NB0 _ _ _).trans (HS.out _ bb_r).2.2.1, (cell_farK NB1 _ _ _).trans (HS.out _ bb_r).2.2.2.1, (cell_farK NB1 _ _ _).trans (HS.out _ bb_r).2.2.2.2.1, (cell_farK NB1 _ _ _).trans (HS.out _ bb_r).2.2.2.2.2⟩ | fail)
        (first
          | (go_at_call 184; refine (K_r.out _ (by first | with_reducible exact Below.refl _ _ | with_reducible exact (Below.refl _ _).drew | with_reducible exact bb_r | with_reducible exact bb_r.drew | fail)).mono ?_; rintro e w_r ⟨x_r, y_r, rfl, o_r, bb_r⟩; obtain ⟨a_r, c_r, e_r, f_r, rfl, rfl⟩ := o_r.slices; obtain ⟨⟨s0, s1, s2⟩, t0, t1, t2⟩ := HC.out _ bb_r))
      all_goals
        have OK := HK.out.below bb_r
        have lr := o_r.lt
        have O3 := OK.set3 k (op (L0[k]'hlt0) (L1[k]'hlt1)) _ _ (by rw [List.length_append, List.length_replicate, zip_lenE HN.out (by rw [← HN1.out]; exact HN.out) (by omega)]; omega) (OwnR.base o_r (by omega)) (fun j hj _ a a' h1 h2 => by have h3 := (L9.out a (.inr ⟨_, List.getElem_mem hj, h1⟩)).2; have h4 := (lr a' h2).1; omega) (fun a h2 => by have h4 := (lr a h2).1; omega)
        rw [grow_set (zip_lenE HN.out (by rw [← HN1.out]; exact HN.out) (by omega)) hlt, ← zip_take hlt0 hlt1] at O3
        have B3 := (((HBk.out.trans (bb_r.mono HBk.out.size)).setCell (p := ⟨g, k * 3, none⟩) (Nat.le_of_eq HG.out.symm) (.bool (op (L0[k]'hlt0) (L1[k]'hlt1)).neg)).setCell (p := ⟨g, k * 3 + 1, none⟩) (Nat.le_of_eq HG.out.symm) (.slice a_r (op (L0[k]'hlt0) (L1[k]'hlt1)).mag.length c_r)).setCell (p := ⟨g, k * 3 + 2, none⟩) (Nat.le_of_eq HG.out.symm) (.slice e_r (op (L0[k]'hlt0) (L1[k]'hlt1)).den.length f_r)
        obtain ⟨w3, hw3⟩ : ∃ x, x = ((w_r.setCell ⟨g, k * 3, none⟩ (.bool (op (L0[k]'hlt0) (L1[k]'hlt1)).neg)).setCell ⟨g, k * 3 + 1, none⟩ (.slice a_r (op (L0[k]'hlt0) (L1[k]'hlt1)).mag.length c_r)).setCell ⟨g, k * 3 + 2, none⟩ (.slice e_r (op (L0[k]'hlt0) (L1[k]'hlt1)).den.length f_r) := ⟨_, rfl⟩
        rw [← hw3] at O3 B3
        rw [← hw3]
        have R3 := Lib.hid (show RowR w3 (.slice a_r (op (L0[k]'hlt0) (L1[k]'hlt1)).mag.length c_r) (op (L0[k]'hlt0) (L1[k]'hlt1)).mag (.slice e_r (op (L0[k]'hlt0) (L1[k]'hlt1)).den.length f_r) (op (L0[k]'hlt0) (L1[k]'hlt1)).den from (by rw [hw3]; exact (o_r.kept (((kept_set w_r g (k * 3) _).trans (kept_set _ g (k * 3 + 1) _)).trans (kept_set _ g (k * 3 + 2) _)) (fun a h2 hag => by have h4 := (lr a h2).1; have h5 : a = g := hag; omega)).row))
        have hz : (xs.set k (Value.slice a_r (op (L0[k]'hlt0) (L1[k]'hlt1)).mag.length c_r, Value.slice e_r (op (L0[k]'hlt0) (L1[k]'hlt1)).den.length f_r)).length = n := by rw [List.length_set]; exact hxl
        obtain ⟨u0, u1, u2⟩ : w3.cell? ⟨g, k * 3, none⟩ = some (.bool (op (L0[k]'hlt0) (L1[k]'hlt1)).neg) ∧ w3.cell? ⟨g, k * 3 + 1, none⟩ = some (.slice a_r (op (L0[k]'hlt0) (L1[k]'hlt1)).mag.length c_r) ∧ w3.cell? ⟨g, k * 3 + 2, none⟩ = some (.slice e_r (op (L0[k]'hlt0) (L1[k]'hlt1)).den.length f_r) := by
          have hlen : (zipF op (L0.take (k + 1)) (L1.take (k + 1))).length = k + 1 := zip_lenE HN.out (by rw [← HN1.out]; exact HN.out) (by omega)
          have h9 := O3.cells k (by rw [List.length_append, hlen]; omega) (by rw [hz]; exact hlt)
          rw [List.getElem_set_self, List.getElem_append_left (by omega)] at h9
          have e9 : (zipF op (L0.take (k + 1)) (L1.take (k + 1)))[k]'(by omega) = op (L0[k]'hlt0) (L1[k]'hlt1) := by
            rw [zip_at (by simp; omega) (by simp; omega)]; simp
          rw [e9] at h9
          exact h9
        have O4 := Lib.hid O3
        have B4 := Lib.hid B3
        clear O3 B3 OK hw3 o_r lr hz s0 s1 s2 t0 t1 t2
        cases hq : badF (op (L0[k]'hlt0) (L1[k]'hlt1)) with
        | false =>
          have hq2 : decide ((op (L0[k]'hlt0) (L1[k]'hlt1)).den.length = 0) = false := hq
          go_wp2_with fail
          have T := impl_tooLarge (op (L0[k]'hlt0) (L1[k]'hlt1)).neg _ _ _ _ w3 R3.out
          rw [hq2] at T
          refine T.mono ?_
          rintro e w4 ⟨rfl, b4⟩
          have O5 := Lib.hid (O4.out.below b4)
          have B5 := Lib.hid (B4.out.trans (b4.mono B4.out.size))
          clear b4 T
          go_wp2_with fail
          exact ⟨⟨k + 1, by omega, by go_num, _, O5, Lib.hid (by have h8 := HA.out; unfold fineV at h8 ⊢; rw [zip_take hlt0 hlt1, List.all_append, h8]; simp [hq]), B5⟩, by simp [intOf]; omega⟩
        | true =>
          have hq2 : decide ((op (L0[k]'hlt0) (L1[k]'hlt1)).den.length = 0) = true := hq
          obtain rfl : ZB = false := HZ.out.1.trans (zip_badAt hlt0 hlt1 hq)
          obtain rfl : ZL = [] := HZ.out.2.trans (by unfold cmbL; rw [zip_badAt hlt0 hlt1 hq]; rfl)
          go_wp2_with fail
          have T := impl_tooLarge (op (L0[k]'hlt0) (L1[k]'hlt1)).neg _ _ _ _ w3 R3.out
          rw [hq2] at T
          refine T.mono ?_
          rintro e w4 ⟨rfl, b4⟩
          have B5 := Lib.hid (B4.out.trans (b4.mono B4.out.size))
          clear b4 T
          go_wp2_with fail
          exact bodyPost_ret (v := .tuple #[.slice none 0 0, .bool false]) (by simp [results, Tryz.results113, go_sem]) rfl ⟨.slice none 0 0, [], rfl, OwnV.nil _ _, B5.out⟩
    · obtain rfl : k = n := by omega
      have hT0 : L0.take k = L0 := by rw [← HN.out, List.take_length]
      have hT1 : L1.take k = L1 := by rw [← HN.out, HN1.out, List.take_length]
      rw [hT0, hT1, Nat.sub_self, List.replicate_zero, List.append_nil] at HK
      rw [hT0, hT1] at HA
      obtain rfl : ZB = true := HZ.out.1.trans HA.out
      obtain rfl : ZL = zipF op L0 L1 := HZ.out.2.trans (by unfold cmbL; rw [HA.out]; rfl)
      go_wp2_with fail
      exact bodyPost_ret (v := .tuple #[.slice (some ⟨g, 0, none⟩) k k, .bool true]) (by simp [results, Tryz.results113, go_sem]) rfl ⟨_, xs, rfl, HK.out.base (Nat.le_of_eq HG.out.symm), HBk.out⟩

set_option maxRecDepth 100000 in
set_option maxHeartbeats 2000000 in
theorem impl_combMul (op : Fr → Fr → Fr)
    (HOP : ∀ (f g : Fr), okF f = true → okF g = true → ∀ v d v' d' w, RowR w v f.mag d f.den → RowR w v' g.mag d' g.den → Calls Tryz.prog 105 #[.agg #[.bool f.neg, v, d], .agg #[.bool g.neg, v', d']] w fun r w' => ∃ x y, r = .returned (.agg #[.bool (op f g).neg, x, y]) ∧ OwnR w' w.heap.size x (op f g).mag y (op f g).den ∧ Below w.heap.size w w')
    (v0 : Value) (L0 : List Fr) (v1 : Value) (L1 : List Fr) (w : World) (h0 : RatsAt w v0 L0) (h1 : RatsAt w v1 L1)
    (hl1 : L0.length = L1.length) (hl2 : L0.length ≤ 600) (E0 : ∀ k (hk : k < L0.length), okF (L0[k]'hk) = true) (E1 : ∀ k (hk : k < L1.length), okF (L1[k]'hk) = true) :
    Calls Tryz.prog 113 #[v0, v1, .func (.func 105) #[] #[]] w fun e w' => ∃ v xs, e = .returned (.tuple #[v, .bool (fineV (zipF op L0 L1))]) ∧ OwnV w' w.heap.size v (cmbL op L0 L1) xs ∧ Below w.heap.size w w' := by
  obtain ⟨ZB, hZB⟩ : ∃ b, b = fineV (zipF op L0 L1) := ⟨_, rfl⟩
  obtain ⟨ZL, hZL⟩ : ∃ b, b = cmbL op L0 L1 := ⟨_, rfl⟩
  rw [← hZB, ← hZL]
  have HZ := Lib.hid (And.intro hZB hZL)
  clear hZB hZL
  have E0 := Lib.hid E0
  have E1 := Lib.hid E1
  obtain ⟨a, cap, rfl, hc, hm, hr⟩ := h0
  obtain ⟨a', cap', rfl, hc', hm', hr'⟩ := h1
  unfold maxLen at hm hm'
  have R := Lib.hid hr
  have R' := Lib.hid hr'
  clear hr hr'
  obtain ⟨n, hnn⟩ : ∃ n, L0.length = n := ⟨_, rfl⟩
  have HN1 := Lib.hid hl1
  rw [hnn] at hl1
  rw [← hl1] at hc' ⊢
  rw [hnn] at hc hl2 ⊢
  have HN := Lib.hid hnn
  have HM := make_rats n (by omega) w
  clear hnn hl1
  go_enter Tryz.func113, Tryz.ntmps113
  go_wp2_with fail
  obtain ⟨W1, hW1⟩ : ∃ x, x = w.alloc (zeroV n) := ⟨_, rfl⟩
  have HO := Lib.hid (show OwnV W1 w.heap.size (.slice (some ⟨w.heap.size, 0, none⟩) n n) (zipF op (L0.take 0) (L1.take 0) ++ List.replicate (n - 0) Fr.zero) _ by rw [hW1]; exact zeroV_own w w.heap.size n (Nat.le_refl _) (by omega))
  have HB := Lib.hid (show Below w.heap.size w W1 by rw [hW1]; exact (Below.refl _ _).alloc (Nat.le_refl _) _)
  rw [← hW1]
  clear hW1 HM
  obtain ⟨g, hg⟩ : ∃ x, x = w.heap.size := ⟨_, rfl⟩
  rw [← hg] at HO
  rw [← hg]
  have HG := Lib.hid hg
  clear hg
  go_loopw [15] (fun iv wr => ∃ (k : Nat), k ≤ n ∧ iv = .int .i64 k ∧ ∃ xs, Hid (OwnV wr g (.slice (some ⟨g, 0, none⟩) n n) (zipF op (L0.take k) (L1.take k) ++ List.replicate (n - k) Fr.zero) xs) ∧ Hid (fineV (zipF op (L0.take k) (L1.take k)) = true) ∧ Hid (Below w.heap.size w wr)) (fun iv _ => n - (intOf iv).toNat)
  case atStart => exact ⟨0, Nat.zero_le _, rfl, _, HO, Lib.hid (by simp [zipF, fineV]), HB⟩
  case round =>
    obtain ⟨k, hk, rfl, xs, HK, HA, HBk⟩ := hrel
    by_cases hlt : k < n
    · skip
      have hlt0 : k < L0.length := by rw [HN.out]; exact hlt
      have hlt1 : k < L1.length := by rw [← HN1.out, HN.out]; exact hlt
      obtain ⟨b, o, x, y, rfl, c0, c1, c2, hrr⟩ := R.out k hlt0
      obtain ⟨b', o', x', y', rfl, e0, e1, e2, hss⟩ := R'.out k hlt1
      have d0 := (HBk.out.cell (World.block_lt_of_cell? w _ c0)).trans c0
      have d1 := (HBk.out.cell (World.block_lt_of_cell? w _ c1)).trans c1
      have d2 := (HBk.out.cell (World.block_lt_of_cell? w _ c2)).trans c2
      have f0 := (HBk.out.cell (World.block_lt_of_cell? w _ e0)).trans e0
      have f1 := (HBk.out.cell (World.block_lt_of_cell? w _ e1)).trans e1
      have f2 := (HBk.out.cell (World.block_lt_of_cell? w _ e2)).trans e2
      have RR := Lib.hid (hrr.below HBk.out)
      have SS := Lib.hid (hss.below HBk.out)
      have hb0 := World.block_lt_of_cell? w _ e0
      have hb1 := World.block_lt_of_cell? w _ c0
      have NB0 : b ≠ g := by have := HG.out; have h : b < w.heap.size := hb1; omega
      have NB1 : b' ≠ g := by have := HG.out; have h : b' < w.heap.size := hb0; omega
      clear hb0 hb1
      obtain ⟨a1, r1, a2, r2, rfl, rfl, hz1, hz2⟩ := rowR_len hrr
      obtain ⟨a3, r3, a4, r4, rfl, rfl, hz3, hz4⟩ := rowR_len hss
      clear c0 c1 c2 R hrr e0 e1 e2 R' hss
      have hL9 := HK.out.lt
      have L9 := Lib.hid hL9
      have hg9 := (hL9 g (.inl rfl)).2
      clear hL9
      go_upto_region 5 with fail
      have K_r := Lib.hid (fun (W : World) (hW : Below wr.heap.size wr W) => (HOP (L0[k]'hlt0) (L1[k]'hlt1) (E0.out k hlt0) (E1.out k hlt1) _ _ _ _ W (RR.out.below hW) (SS.out.below hW)).mono (R' := fun r w' => ∃ x y, r = .returned (.agg #[.bool (op (L0[k]'hlt0) (L1[k]'hlt1)).neg, x, y]) ∧ OwnR w' wr.heap.size x (op (L0[k]'hlt0) (L1[k]'hlt1)).mag y (op (L0[k]'hlt0) (L1[k]'hlt1)).den ∧ Below wr.heap.size wr w') (fun r w' ⟨x, y, he, hr, hb⟩ => ⟨x, y, he, hr.base hW.size, hW.trans (hb.mono hW.size)⟩))
      have HS := Lib.hid (show ∀ W : World, Below wr.heap.size wr W → (W.cell? ⟨b, o + k * 3, none⟩ = some (.bool (L0[k]'hlt0).neg) ∧ W.cell? ⟨b, o + k * 3 + 1, none⟩ = some (.slice a1 (L0[k]'hlt0).mag.length r1) ∧ W.cell? ⟨b, o + k * 3 + 2, none⟩ = some (.slice a2 (L0[k]'hlt0).den.length r2) ∧ W.cell? ⟨b', o' + k * 3, none⟩ = some (.bool (L1[k]'hlt1).neg) ∧ W.cell? ⟨b', o' + k * 3 + 1, none⟩ = some (.slice a3 (L1[k]'hlt1).mag.length r3) ∧ W.cell? ⟨b', o' + k * 3 + 2, none⟩ = some (.slice a4 (L1[k]'hlt1).den.length r4)) from fun W hW => ⟨(hW.cell (World.block_lt_of_cell? wr _ d0)).trans d0, (hW.cell (World.block_lt_of_cell? wr _ d1)).trans d1, (hW.cell (World.block_lt_of_cell? wr _ d2)).trans d2, (hW.cell (World.block_lt_of_cell? wr _ f0)).trans f0, (hW.cell (World.block_lt_of_cell? wr _ f1)).trans f1, (hW.cell (World.block_lt_of_cell? wr _ f2)).trans f2⟩)
      have hxl : xs.length = n := by have := HK.out.len; rw [List.length_append, List.length_replicate, zip_lenE HN.out (by rw [← HN1.out]; exact HN.out) (by omega)] at this; omega
      have HC := Lib.hid (fun (W : World) (hW : Below wr.heap.size wr W) => And.intro ((HK.out.below hW).cells k (by rw [List.length_append, List.length_replicate, zip_lenE HN.out (by rw [← HN1.out]; exact HN.out) (by omega)]; omega) (by omega)) (And.intro ((HK.out.below hW).frozen (k * 3)) (And.intro ((HK.out.below hW).frozen (k * 3 + 1)) ((HK.out.below hW).frozen (k * 3 + 2)))))
      go_region_held3 (fun w' => w'.cell? ⟨b, o + k * 3, none⟩ = some (.bool (L0[k]'hlt0).neg) ∧ w'.cell? ⟨b, o + k * 3 + 1, none⟩ = some (.slice a1 (L0[k]'hlt0).mag.length r1) ∧ w'.cell? ⟨b, o + k * 3 + 2, none⟩ = some (.slice a2 (L0[k]'hlt0).den.length r2) ∧ w'.cell? ⟨b', o' + k * 3, none⟩ = some (.bool (L1[k]'hlt1).neg) ∧ w'.cell? ⟨b', o' + k * 3 + 1, none⟩ = some (.slice a3 (L1[k]'hlt1).mag.length r3) ∧ w'.cell? ⟨b', o' + k * 3 + 2, none⟩ = some (.slice a4 (L1[k]'hlt1).den.length r4)) (first | exact HS.out _ (by first | with_reducible exact Below.refl _ _ | with_reducible exact (Below.refl _ _).drew | with_reducible exact bb_r | with_reducible exact bb_r.drew | fail) | exact ⟨(cell_farK NB0 _ _ _).trans (HS.out _ bb_r).1, (cell_farK NB0 _ _ _).trans (HS.out _ bb_r).2.1, (cell_farK NB0 _ _ _).trans (HS.out _ bb_r).2.2.1, (cell_farK NB1 _ _ _).trans (HS.out _ bb_r).2.2.2.1, (cell_farK NB1 _ _ _).trans (HS.out _ bb_r).2.2.2.2.1, (cell_farK NB1 _ _ _).trans (HS.out _ bb_r).2.2.2.2.2⟩ | fail)
        (first
          | (go_at_call 105; refine (K_r.out _ (by first | with_reducible exact Below.refl _ _ | with_reducible exact (Below.refl _ _).drew | with_reducible exact bb_r | with_reducible exact bb_r.drew | fail)).mono ?_; rintro e w_r ⟨x_r, y_r, rfl, o_r, bb_r⟩; obtain ⟨a_r, c_r, e_r, f_r, rfl, rfl⟩ := o_r.slices; obtain ⟨⟨s0, s1, s2⟩, t0, t1, t2⟩ := HC.out _ bb_r))
      all_goals
        have OK := HK.out.below bb_r
        have lr := o_r.lt
        have O3 := OK.set3 k (op (L0[k]'hlt0) (L1[k]'hlt1)) _ _ (by rw [List.length_append, List.length_replicate, zip_lenE HN.out (by rw [← HN1.out]; exact HN.out) (by omega)]; omega) (OwnR.base o_r (by omega)) (fun j hj _ a a' h1 h2 => by have h3 := (L9.out a (.inr ⟨_, List.getElem_mem hj, h1⟩)).2; have h4 := (lr a' h2).1; omega) (fun a h2 => by have h4 := (lr a h2).1; omega)
        rw [grow_set (zip_lenE HN.out (by rw [← HN1.out]; exact HN.out) (by omega)) hlt, ← zip_take hlt0 hlt1] at O3
        have B3 := (((HBk.out.trans (bb_r.mono HBk.out.size)).setCell (p := ⟨g, k * 3, none⟩) (Nat.le_of_eq HG.out.symm) (.bool (op (L0[k]'hlt0) (L1[k]'hlt1)).neg)).setCell (p := ⟨g, k * 3 + 1, none⟩) (Nat.le_of_eq HG.out.symm) (.slice a_r (op (L0[k]'hlt0) (L1[k]'hlt1)).mag.length c_r)).setCell (p := ⟨g, k * 3 + 2, none⟩) (Nat.le_of_eq HG.out.symm) (.slice e_r (op (L0[k]'hlt0) (L1[k]'hlt1)).den.length f_r)
        obtain ⟨w3, hw3⟩ : ∃ x, x = ((w_r.setCell ⟨g, k * 3, none⟩ (.bool (op (L0[k]'hlt0) (L1[k]'hlt1)).neg)).setCell ⟨g, k * 3 + 1, none⟩ (.slice a_r (op (L0[k]'hlt0) (L1[k]'hlt1)).mag.length c_r)).setCell ⟨g, k * 3 + 2, none⟩ (.slice e_r (op (L0[k]'hlt0) (L1[k]'hlt1)).den.length f_r) := ⟨_, rfl⟩
        rw [← hw3] at O3 B3
        rw [← hw3]
        have R3 := Lib.hid (show RowR w3 (.slice a_r (op (L0[k]'hlt0) (L1[k]'hlt1)).mag.length c_r) (op (L0[k]'hlt0) (L1[k]'hlt1)).mag (.slice e_r (op (L0[k]'hlt0) (L1[k]'hlt1)).den.length f_r) (op (L0[k]'hlt0) (L1[k]'hlt1)).den from (by rw [hw3]; exact (o_r.kept (((kept_set w_r g (k * 3) _).trans (kept_set _ g (k * 3 + 1) _)).trans (kept_set _ g (k * 3 + 2) _)) (fun a h2 hag => by have h4 := (lr a h2).1; have h5 : a = g := hag; omega)).row))
        have hz : (xs.set k (Value.slice a_r (op (L0[k]'hlt0) (L1[k]'hlt1)).mag.length c_r, Value.slice e_r (op (L0[k]'hlt0) (L1[k]'hlt1)).den.length f_r)).length = n := by rw [List.length_set]; exact hxl
        obtain ⟨u0, u1, u2⟩ : w3.cell? ⟨g, k * 3, none⟩ = some (.bool (op (L0[k]'hlt0) (L1[k]'hlt1)).neg) ∧ w3.cell? ⟨g, k * 3 + 1, none⟩ = some (.slice a_r (op (L0[k]'hlt0) (L1[k]'hlt1)).mag.length c_r) ∧ w3.cell? ⟨g, k * 3 + 2, none⟩ = some (.slice e_r (op (L0[k]'hlt0) (L1[k]'hlt1)).den.length f_r) := by
          have hlen : (zipF op (L0.take (k + 1)) (L1.take (k + 1))).length = k + 1 := zip_lenE HN.out (by rw [← HN1.out]; exact HN.out) (by omega)
          have h9 := O3.cells k (by rw [List.length_append, hlen]; omega) (by rw [hz]; exact hlt)
          rw [List.getElem_set_self, List.getElem_append_left (by omega)] at h9
          have e9 : (zipF op (L0.take (k + 1)) (L1.take (k + 1)))[k]'(by omega) = op (L0[k]'hlt0) (L1[k]'hlt1) := by
            rw [zip_at (by simp; omega) (by simp; omega)]; simp
          rw [e9] at h9
          exact h9
        have O4 := Lib.hid O3
        have B4 := Lib.hid B3
        clear O3 B3 OK hw3 o_r lr hz s0 s1 s2 t0 t1 t2
        cases hq : badF (op (L0[k]'hlt0) (L1[k]'hlt1)) with
        | false =>
          have hq2 : decide ((op (L0[k]'hlt0) (L1[k]'hlt1)).den.length = 0) = false := hq
          go_wp2_with fail
          have T := impl_tooLarge (op (L0[k]'hlt0) (L1[k]'hlt1)).neg _ _ _ _ w3 R3.out
          rw [hq2] at T
          refine T.mono ?_
          rintro e w4 ⟨rfl, b4⟩
          have O5 := Lib.hid (O4.out.below b4)
          have B5 := Lib.hid (B4.out.trans (b4.mono B4.out.size))
          clear b4 T
          go_wp2_with fail
          exact ⟨⟨k + 1, by omega, by go_num, _, O5, Lib.hid (by have h8 := HA.out; unfold fineV at h8 ⊢; rw [zip_take hlt0 hlt1, List.all_append, h8]; simp [hq]), B5⟩, by simp [intOf]; omega⟩
        | true =>
          have hq2 : decide ((op (L0[k]'hlt0) (L1[k]'hlt1)).den.length = 0) = true := hq
          obtain rfl : ZB = false := HZ.out.1.trans (zip_badAt hlt0 hlt1 hq)
          obtain rfl : ZL = [] := HZ.out.2.trans (by unfold cmbL; rw [zip_badAt hlt0 hlt1 hq]; rfl)
          go_wp2_with fail
          have T := impl_tooLarge (op (L0[k]'hlt0) (L1[k]'hlt1)).neg _ _ _ _ w3 R3.out
          rw [hq2] at T
          refine T.mono ?_
          rintro e w4 ⟨rfl, b4⟩
          have B5 := Lib.hid (B4.out.trans (b4.mono B4.out.size))
          clear b4 T
          go_wp2_with fail
          exact bodyPost_ret (v := .tuple #[.slice none 0 0, .bool false]) (by simp [results, Tryz.results113, go_sem]) rfl ⟨.slice none 0 0, [], rfl, OwnV.nil _ _, B5.out⟩
    · obtain rfl : k = n := by omega
      have hT0 : L0.take k = L0 := by rw [← HN.out, List.take_length]
      have hT1 : L1.take k = L1 := by rw [← HN.out, HN1.out, List.take_length]
      rw [hT0, hT1, Nat.sub_self, List.replicate_zero, List.append_nil] at HK
      rw [hT0, hT1] at HA
      obtain rfl : ZB = true := HZ.out.1.trans HA.out
      obtain rfl : ZL = zipF op L0 L1 := HZ.out.2.trans (by unfold cmbL; rw [HA.out]; rfl)
      go_wp2_with fail
      exact bodyPost_ret (v := .tuple #[.slice (some ⟨g, 0, none⟩) k k, .bool true]) (by simp [results, Tryz.results113, go_sem]) rfl ⟨_, xs, rfl, HK.out.base (Nat.le_of_eq HG.out.symm), HBk.out⟩

end Go.Proofs.YtlepgkkpopjgoaaGreat
