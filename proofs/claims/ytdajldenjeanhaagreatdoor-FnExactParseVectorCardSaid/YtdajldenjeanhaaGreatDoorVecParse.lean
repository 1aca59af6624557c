/- ParseVector of the model and of the program. -/
import Derived.Test.YtdajldenjeanhaaGreatDoorVecPieces
namespace Go.Proofs.YtdajldenjeanhaaGreatDoor
open Go.RowKit Go.WideShapes Go.ChangeShapes
set_option linter.unusedVariables false
set_option linter.unusedSimpArgs false
theorem grow_setF {P : List Fr} {n k : Nat} (hP : P.length = k) (hk : k < n) (f : Fr) : (P ++ List.replicate (n - k) Fr.zero).set k f = (P ++ [f]) ++ List.replicate (n - (k + 1)) Fr.zero := by
  obtain ⟨m, rfl⟩ : ∃ m, n = k + 1 + m := ⟨n - (k + 1), by omega⟩
  rw [show k + 1 + m - k = m + 1 by omega, show k + 1 + m - (k + 1) = m by omega, List.set_append_right _ _ (by omega), hP, Nat.sub_self, List.replicate_succ, List.set_cons_zero]
  simp
theorem size_zero_eq {s : ByteArray} (h : s.size = 0) : s = ⟨#[]⟩ := by
  apply ByteArray.ext
  exact Array.eq_empty_of_size_eq_zero h
theorem take_prF {P : List ByteArray} {k : Nat} (h : k < P.length) : (P.take (k + 1)).map prF = (P.take k).map prF ++ [prF (P[k]'h)] := by
  rw [List.take_succ_eq_append_getElem h, List.map_append]; rfl
theorem all_prOk {P : List ByteArray} {k : Nat} (h : k < P.length) (ha : (P.take k).all prOk = true) (hp : prOk (P[k]'h) = true) : (P.take (k + 1)).all prOk = true := by
  rw [List.take_succ_eq_append_getElem h, List.all_append, ha]; simp [hp]
theorem no_prOk {P : List ByteArray} {k : Nat} (h : k < P.length) (hp : prOk (P[k]'h) = false) : P.all prOk = false := by
  rw [List.all_eq_false]; exact ⟨_, List.getElem_mem h, by simp [hp]⟩
theorem alloc_at2 (w : World) (o1 o2 : Obj) : ((w.alloc o1).alloc o2).heap[w.heap.size + 1]? = some o2 := by
  have h := World.alloc_heap_new (w.alloc o1) o2
  rwa [World.size_alloc] at h
theorem kept_cell {S : Nat → Prop} {w w' : World} {a : Addr} {v : Value} (h : Kept S w w') (hc : w.cell? a = some v) (hn : ¬ S a.block) : w'.cell? a = some v :=
  (World.cell?_of_block (h.block a.block (World.block_lt_of_cell? w _ hc) hn)).trans hc
theorem kept_app {S : Nat → Prop} {a b c : World} {v : Value} (h : Kept S a b) (hg : b.grownBy c v.ownBlock) (hv : ∀ k, v.ownBlock = some k → S k ∨ a.heap.size ≤ k) : Kept S a c :=
  ⟨hg.os.trans h.os, hg.tape.trans h.tape, hg.output.trans h.output, Nat.le_trans h.size hg.size, fun i hi hn => (hg.block i (Nat.lt_of_lt_of_le hi h.size) (fun e => by
    rcases hv i e.symm with e' | e'
    · exact hn e'
    · omega)).trans (h.block i hi hn)⟩

set_option maxRecDepth 100000 in
set_option maxHeartbeats 4000000 in
theorem spec_parseV (s : ByteArray) (w : World) (hs : s.size ≤ 1048576) :
    Calls Tryz.prog 10 #[.string s] w fun r w' => ∃ v xs, r = .returned (.tuple #[v, .bool (pvOk s)]) ∧ OwnV w' w.heap.size v (pvL s) xs ∧ Below w.heap.size w w' := by
  by_cases h0 : s.size = 0
  · rw [(pv_zero h0).1, (pv_zero h0).2]
    obtain rfl := size_zero_eq h0
    clear h0 hs
    go_enter Tryz.func10, Tryz.ntmps10
    go_wp2
    exact bodyPost_ret (v := .tuple #[.slice none 0 0, .bool true]) (by simp [results, Tryz.results10, go_sem]) rfl ⟨.slice none 0 0, [], rfl, OwnV.nil _ _, Below.refl _ _⟩
  have hne := ba_ne0 (show 0 < s.size by omega)
  have hne2 := ba_list (show 0 < s.size by omega)
  obtain ⟨ZB, hZB⟩ : ∃ b, b = pvOk s := ⟨_, rfl⟩
  obtain ⟨ZL, hZL⟩ : ∃ b, b = pvL s := ⟨_, rfl⟩
  rw [← hZB, ← hZL]
  have HZ := Lib.hid (And.intro hZB hZL)
  clear hZB hZL
  have SPL := spec_splitAny s ⟨#[32]⟩ (w.alloc (.cells #[] 43)) (by omega) (by unfold maxLen; decide)
  have HP := Lib.hid (show ∀ t ∈ cutV s, t.size ≤ 1048576 from fun t ht => Nat.le_trans (cutV_size t ht) hs)
  have HL := Lib.hid (show (cutV s).length ≤ 1048577 from Nat.le_trans (cutAll_length _ s) (by omega))
  have N0 := Lib.hid h0
  clear h0 hs
  change Calls _ _ _ _ (fun e w' => ∃ v, e = .returned v ∧ w'.ownsRow (w.alloc (.cells #[] 43)).heap.size 9 1 v (cutV s).length ((cutV s).map .string) ∧ Below (w.alloc (.cells #[] 43)).heap.size (w.alloc (.cells #[] 43)) w') at SPL
  obtain ⟨P, hP⟩ : ∃ x, x = cutV s := ⟨_, rfl⟩
  have HPs := Lib.hid hP
  rw [← hP] at SPL HP HL
  clear hP
  obtain ⟨n, hnn⟩ : ∃ n, P.length = n := ⟨_, rfl⟩
  rw [hnn] at SPL
  have HN := Lib.hid hnn
  have hn := HL.out
  rw [hnn] at hn
  clear hnn
  go_enter Tryz.func10, Tryz.ntmps10
  go_wp2_with fail
  refine SPL.mono ?_
  rintro e w1 ⟨v1, rfl, hrow, b1⟩
  have HR := Lib.hid (ownsRow_row (f := Value.string) hrow)
  have B1 := Lib.hid (((Below.refl w.heap.size w).alloc (Nat.le_refl _) (.cells #[] 43)).trans (b1.mono (by simp)))
  have HO := Lib.hid (show OwnV w1 w.heap.size (.slice (some ⟨w.heap.size, 0, none⟩) 0 0) ((P.take 0).map prF) [] from (OwnV.lit0 w).below b1)
  have hsz1 : w.heap.size + 1 ≤ w1.heap.size := by have := b1.size; simp at this; omega
  obtain ⟨a', cap', hv1, hc', hm', hr'⟩ := HR.out
  have RB := Lib.hid (show ∀ b o, a' = some ⟨b, o, none⟩ → 0 < n → b ≠ w.heap.size from fun b o e hn0 hb => by
    have e2 : v1.ownBlock = some b := by
      rcases hrow.2 with ⟨hv, hz⟩ | ⟨g, cap, cur, hv, hB, _⟩
      · exact absurd hz (by have := HN.out; omega)
      · rw [hv] at hv1
        injection hv1 with h1 h2 h3
        rw [e] at h1
        rw [hv]
        injection h1 with h1
        injection h1 with h1 h4 h5
        rw [h1]; rfl
    have := (hrow.lt b e2).1
    simp at this; omega)
  clear hrow b1
  rw [HN.out] at hc' hv1
  subst hv1
  unfold maxLen at hm'
  have R := Lib.hid hr'
  clear hr' HR SPL
  go_wp2_with fail
  have HV0 := Lib.hid (show ∀ i, (Value.slice (some ⟨w.heap.size, 0, none⟩) 0 0).ownBlock = some i → i = w.heap.size ∨ w1.heap.size ≤ i from fun i e => .inl (Option.some.inj e).symm)
  go_loopw [4, 15] (fun ov iv wr => ∃ (k : Nat) (vo : Value), k ≤ n ∧ iv = .int .i64 k ∧ vo = ov ∧ ∃ xs, Hid (OwnV wr w.heap.size vo ((P.take k).map prF) xs) ∧ Hid ((P.take k).all prOk = true) ∧ Hid (Kept (fun i => i = w.heap.size) w1 wr) ∧ Hid (∀ i, vo.ownBlock = some i → i = w.heap.size ∨ w1.heap.size ≤ i) ∧ Hid (Below w.heap.size w wr)) (fun _ iv _ => n - (intOf iv).toNat)
  case atStart => exact ⟨0, _, Nat.zero_le _, rfl, rfl, _, HO, Lib.hid (by simp), Lib.hid (Kept.refl _ _), HV0, B1⟩
  case round =>
    obtain ⟨k, vo, hk, rfl, rfl, xs, HK, HA, HKp, HV, HBk⟩ := hrel
    by_cases hlt : k < n
    · have hlt1 : k < P.length := by rw [HN.out]; exact hlt
      obtain ⟨b', o', rfl, g0⟩ := R.out k hlt1
      have d0 := kept_cell HKp.out g0 (RB.out _ _ rfl (by omega))
      have hsz := HP.out _ (List.getElem_mem hlt1)
      clear g0 R
      obtain ⟨t, ht⟩ : ∃ x, x = P[k]'hlt1 := ⟨_, rfl⟩
      rw [← ht] at d0 hsz
      have HT := Lib.hid ht
      clear ht
      have PR := spec_ratParse t wr hsz
      go_wp2_with fail
      refine PR.mono ?_
      rintro e w_r ⟨x_r, y_r, rfl, o_r, bb_r⟩
      obtain ⟨a_r, c_r, e_r, f_r, rfl, rfl⟩ := o_r.slices
      obtain ⟨wX, hwX⟩ : ∃ x, x = w_r.alloc (.cells #[.bool (prB t), .slice a_r (prZ t).length c_r, .slice e_r (prD t).length f_r] 43) := ⟨_, rfl⟩
      have bX := Lib.hid (show Below wr.heap.size wr wX by rw [hwX]; exact bb_r.alloc bb_r.size _)
      have oX := Lib.hid (show OwnR wX wr.heap.size _ _ _ _ by rw [hwX]; exact o_r.alloc _)
      have lr := Lib.hid o_r.lt
      cases hq : prOk t with
      | false =>
        obtain rfl : ZB = false := HZ.out.1.trans (pv_no N0.out (by rw [← HPs.out, no_prOk hlt1 (by rw [← HT.out]; exact hq)]; rfl)).1
        obtain rfl : ZL = [] := HZ.out.2.trans (pv_no N0.out (by rw [← HPs.out, no_prOk hlt1 (by rw [← HT.out]; exact hq)]; rfl)).2
        have B9 := Lib.hid (HBk.out.trans (bX.out.mono HBk.out.size))
        rw [hwX] at B9
        clear hwX bX oX o_r lr
        go_wp2_with fail
        exact bodyPost_ret (v := .tuple #[.slice none 0 0, .bool false]) (by simp [results, Tryz.results10, go_sem]) rfl ⟨.slice none 0 0, [], rfl, OwnV.nil _ _, B9.out⟩
      | true =>
        have DX := Lib.hid (show Rx wX w_r.heap.size 43 (prB t) (.slice a_r (prZ t).length c_r) (.slice e_r (prD t).length f_r) by rw [hwX]; exact Rx.new _ _ _ _ _)
        have m0 := DX.out.c0
        have m1 := DX.out.c1
        have m2 := DX.out.c2
        rw [hwX] at m0 m1 m2
        have O9 := Lib.hid (HK.out.below bX.out)
        have L9 := Lib.hid HK.out.lt
        have BW := Lib.hid HBk.out.size
        have KX := Lib.hid (HKp.out.trans (Kept.of_below bX.out))
        have B9 := Lib.hid (HBk.out.trans (bX.out.mono HBk.out.size))
        have SX := Lib.hid bb_r.size
        have S1 := Lib.hid HKp.out.size
        have hlen : ((P.take k).map prF).length ≤ 4000000 := by rw [List.length_map, List.length_take, HN.out]; omega
        clear o_r bb_r PR bX d0 DX
        rw [hwX] at O9 oX KX B9
        clear hwX
        go_wp2_with (at_builtin; refine append_ratL rfl _ _ rfl w.heap.size vo _ xs rfl (O9.out.alloc _) hlen (by have := BW.out; have := SX.out; simp; omega) _ _ rfl (prF t) _ _ (alloc_at2 _ _ _) (OwnR.base (oX.out.alloc _) BW.out) (fun i hi r r' h1 h2 => by have h3 := (L9.out r (.inr ⟨_, List.getElem_mem hi, h1⟩)).2; have h4 := (lr.out r' h2).1; omega) (fun r h2 h1 => by have h3 := (L9.out r (.inl h1)).2; have h4 := (lr.out r h2).1; omega) ?_; intro v_n w_n o_n g_n l_n)
        clear m0 m1 m2
        exact ⟨⟨k + 1, v_n, by omega, by go_num, rfl, _, Lib.hid (by rw [take_prF hlt1, ← HT.out]; exact o_n), Lib.hid (all_prOk hlt1 HA.out (by rw [← HT.out]; exact hq)), Lib.hid (kept_app (KX.out.trans (Kept.of_below ((Below.refl _ _).alloc (Nat.le_refl _) _))) g_n HV.out), Lib.hid (fun i e => by
          rcases l_n i e with e' | e'
          · exact HV.out i e'
          · exact .inr (by have := S1.out; have := SX.out; simp at e'; omega)), Lib.hid ((B9.out.alloc B9.out.size _).grown g_n (by have := BW.out; have := SX.out; simp; omega) (fun q hq => (L9.out q (.inl hq)).1))⟩, by simp [intOf]; omega⟩
    · obtain rfl : k = n := by omega
      have hT1 : P.take k = P := List.take_of_length_le (Nat.le_of_eq HN.out)
      rw [hT1] at HK HA
      have KV := spec_isV vo (P.map prF) wr HK.out.rats
      rw [pv_vec HA.out, HN.out] at KV
      by_cases h24 : k ≤ 24
      · have hyes := pv_yes N0.out (by rw [← HPs.out, HA.out, decide_eq_true (by rw [HN.out]; exact h24)]; rfl)
        rw [← HPs.out] at hyes
        obtain rfl : ZB = true := HZ.out.1.trans hyes.1
        obtain rfl : ZL = P.map prF := HZ.out.2.trans hyes.2
        have HTx : vecT (P.map prF) = s := by rw [HPs.out]; exact pv_text (by rw [← HPs.out]; exact HA.out) (by rw [← HPs.out, HN.out]; exact h24)
        rw [decide_eq_true h24] at KV
        clear hyes
        go_wp2_with fail
        refine KV.mono ?_
        rintro e w2 ⟨rfl, b2⟩
        have B2 := Lib.hid (HBk.out.trans (b2.mono HBk.out.size))
        have O2 := Lib.hid (HK.out.below b2)
        have KF := spec_formatV vo (P.map prF) w2 O2.out.rats
        rw [HTx] at KF
        clear b2 KV HTx
        go_wp2_with fail
        refine KF.mono ?_
        rintro e w3 ⟨rfl, b3⟩
        have B3 := Lib.hid (B2.out.trans (b3.mono B2.out.size))
        have O3 := Lib.hid (O2.out.below b3)
        clear b3 KF
        go_wp2_with fail
        exact bodyPost_ret (v := .tuple #[vo, .bool true]) (by simp [results, Tryz.results10, go_sem]) rfl ⟨vo, xs, rfl, O3.out, B3.out⟩
      · have hno := pv_no N0.out (by rw [← HPs.out, HA.out, decide_eq_false (by rw [HN.out]; exact h24)]; rfl)
        obtain rfl : ZB = false := HZ.out.1.trans hno.1
        obtain rfl : ZL = [] := HZ.out.2.trans hno.2
        rw [decide_eq_false h24] at KV
        clear hno
        go_wp2_with fail
        refine KV.mono ?_
        rintro e w2 ⟨rfl, b2⟩
        have B2 := Lib.hid (HBk.out.trans (b2.mono HBk.out.size))
        go_wp2_with fail
        exact bodyPost_ret (v := .tuple #[.slice none 0 0, .bool false]) (by simp [results, Tryz.results10, go_sem]) rfl ⟨.slice none 0 0, [], rfl, OwnV.nil _ _, B2.out⟩

set_option maxRecDepth 100000 in
set_option maxHeartbeats 4000000 in
theorem impl_parseV (s : ByteArray) (w : World) (hs : s.size ≤ 1048576) :
    Calls Tryz.prog 11 #[.string s] w fun r w' => ∃ v xs, r = .returned (.tuple #[v, .bool (pvOk s)]) ∧ OwnV w' w.heap.size v (pvL s) xs ∧ Below w.heap.size w w' := by
  by_cases h0 : s.size = 0
  · rw [(pv_zero h0).1, (pv_zero h0).2]
    obtain rfl := size_zero_eq h0
    clear h0 hs
    go_enter Tryz.func11, Tryz.ntmps11
    go_wp2
    exact bodyPost_ret (v := .tuple #[.slice none 0 0, .bool true]) (by simp [results, Tryz.results11, go_sem]) rfl ⟨.slice none 0 0, [], rfl, OwnV.nil _ _, Below.refl _ _⟩
  have hne := ba_ne0 (show 0 < s.size by omega)
  have hne2 := ba_list (show 0 < s.size by omega)
  obtain ⟨ZB, hZB⟩ : ∃ b, b = pvOk s := ⟨_, rfl⟩
  obtain ⟨ZL, hZL⟩ : ∃ b, b = pvL s := ⟨_, rfl⟩
  rw [← hZB, ← hZL]
  have HZ := Lib.hid (And.intro hZB hZL)
  clear hZB hZL
  have SPL := impl_splitAny s ⟨#[32]⟩ w (by omega) (by unfold maxLen; decide)
  have HP := Lib.hid (show ∀ t ∈ cutV s, t.size ≤ 1048576 from fun t ht => Nat.le_trans (cutV_size t ht) hs)
  have HL := Lib.hid (show (cutV s).length ≤ 1048577 from Nat.le_trans (cutAll_length _ s) (by omega))
  have N0 := Lib.hid h0
  clear h0 hs
  change Calls _ _ _ _ (fun e w' => ∃ v, e = .returned v ∧ w'.ownsRow w.heap.size 9 1 v (cutV s).length ((cutV s).map .string) ∧ Below w.heap.size w w') at SPL
  obtain ⟨P, hP⟩ : ∃ x, x = cutV s := ⟨_, rfl⟩
  have HPs := Lib.hid hP
  rw [← hP] at SPL HP HL
  clear hP
  obtain ⟨n, hnn⟩ : ∃ n, P.length = n := ⟨_, rfl⟩
  rw [hnn] at SPL
  have HN := Lib.hid hnn
  have hn := HL.out
  rw [hnn] at hn
  clear hnn
  go_enter Tryz.func11, Tryz.ntmps11
  go_wp2_with fail
  refine SPL.mono ?_
  rintro e w1 ⟨v1, rfl, hrow, b1⟩
  have HR := Lib.hid (ownsRow_row (f := Value.string) hrow)
  have B1 := Lib.hid (b1)
  clear hrow b1
  obtain ⟨a', cap', hv1, hc', hm', hr'⟩ := HR.out
  rw [HN.out] at hc' hv1
  subst hv1
  unfold maxLen at hm'
  have R := Lib.hid hr'
  clear hr' HR
  have HB := Lib.hid (Below.refl w1.heap.size w1)
  by_cases h24 : n ≤ 24
  rotate_left
  · have hno := pv_no N0.out (by rw [← HPs.out, decide_eq_false (by rw [HN.out]; exact h24), Bool.and_false])
    obtain rfl : ZB = false := HZ.out.1.trans hno.1
    obtain rfl : ZL = [] := HZ.out.2.trans hno.2
    clear hno
    go_wp2_with fail
    exact bodyPost_ret (v := .tuple #[.slice none 0 0, .bool false]) (by simp [results, Tryz.results11, go_sem]) rfl ⟨.slice none 0 0, [], rfl, OwnV.nil _ _, B1.out⟩
  have HM := make_rats n (by omega) w1
  go_wp2_with fail
  obtain ⟨W2, hW2⟩ : ∃ x, x = w1.alloc (zeroV n) := ⟨_, rfl⟩
  obtain ⟨g, hg⟩ : ∃ x, x = w1.heap.size := ⟨_, rfl⟩
  have HO := Lib.hid (show OwnV W2 w1.heap.size (.slice (some ⟨g, 0, none⟩) n n) ((P.take 0).map prF ++ List.replicate (n - 0) Fr.zero) _ by rw [hW2, hg]; exact zeroV_own w1 w1.heap.size n (Nat.le_refl _) (by omega))
  replace HB := Lib.hid (show Below w1.heap.size w1 W2 by rw [hW2]; exact (Below.refl _ _).alloc (Nat.le_refl _) _)
  have HG := Lib.hid (show w1.heap.size ≤ g by rw [hg]; exact Nat.le_refl _)
  rw [← hW2, ← hg]
  clear hW2 hg HM SPL
  go_loopw [22] (fun iv wr => ∃ (k : Nat), k ≤ n ∧ iv = .int .i64 k ∧ ∃ xs, Hid (OwnV wr w1.heap.size (.slice (some ⟨g, 0, none⟩) n n) ((P.take k).map prF ++ List.replicate (n - k) Fr.zero) xs) ∧ Hid ((P.take k).all prOk = true) ∧ Hid (Below w1.heap.size w1 wr)) (fun iv _ => n - (intOf iv).toNat)
  case atStart => exact ⟨0, Nat.zero_le _, rfl, _, HO, Lib.hid (by simp), HB⟩
  case round =>
    obtain ⟨k, hk, rfl, xs, HK, HA, HBk⟩ := hrel
    by_cases hlt : k < n
    · skip
      have hlt1 : k < P.length := by rw [HN.out]; exact hlt
      obtain ⟨b', o', rfl, g0⟩ := R.out k hlt1
      have d0 := (HBk.out.cell (World.block_lt_of_cell? w1 _ g0)).trans g0
      have hsz := HP.out _ (List.getElem_mem hlt1)
      clear g0 R
      obtain ⟨t, ht⟩ : ∃ x, x = P[k]'hlt1 := ⟨_, rfl⟩
      rw [← ht] at d0 hsz
      have HT := Lib.hid ht
      clear ht
      have PR := impl_ratParse t wr hsz
      have L9 := Lib.hid HK.out.lt
      have hg9 := (L9.out g (.inl rfl)).2
      go_wp2_with fail
      refine PR.mono ?_
      rintro e w_r ⟨x_r, y_r, rfl, o_r, bb_r⟩
      obtain ⟨a_r, c_r, e_r, f_r, rfl, rfl⟩ := o_r.slices
      obtain ⟨wX, hwX⟩ : ∃ x, x = w_r.alloc (.cells #[.bool (prB t), .slice a_r (prZ t).length c_r, .slice e_r (prD t).length f_r] 43) := ⟨_, rfl⟩
      have bX := Lib.hid (show Below wr.heap.size wr wX by rw [hwX]; exact bb_r.alloc bb_r.size _)
      have oX := Lib.hid (show OwnR wX wr.heap.size _ _ _ _ by rw [hwX]; exact o_r.alloc _)
      have lr := o_r.lt
      have B9 := Lib.hid (HBk.out.trans (bX.out.mono HBk.out.size))
      cases hq : prOk t with
      | false =>
        obtain rfl : ZB = false := HZ.out.1.trans (pv_no N0.out (by rw [← HPs.out, no_prOk hlt1 (by rw [← HT.out]; exact hq)]; rfl)).1
        obtain rfl : ZL = [] := HZ.out.2.trans (pv_no N0.out (by rw [← HPs.out, no_prOk hlt1 (by rw [← HT.out]; exact hq)]; rfl)).2
        replace B9 := Lib.hid (B1.out.trans (B9.out.mono B1.out.size))
        rw [hwX] at B9
        clear hwX bX oX o_r lr
        go_wp2_with fail
        exact bodyPost_ret (v := .tuple #[.slice none 0 0, .bool false]) (by simp [results, Tryz.results11, go_sem]) rfl ⟨.slice none 0 0, [], rfl, OwnV.nil _ _, B9.out⟩
      | true =>
        have DX := Lib.hid (show Rx wX w_r.heap.size 43 (prB t) (.slice a_r (prZ t).length c_r) (.slice e_r (prD t).length f_r) by rw [hwX]; exact Rx.new _ _ _ _ _)
        have OK := HK.out.below bX.out
        have hPk : ((P.take k).map prF).length = k := by rw [List.length_map, List.length_take, HN.out]; omega
        have hxl : xs.length = n := by have := HK.out.len; rw [List.length_append, hPk, List.length_replicate] at this; omega
        have m0 := DX.out.c0
        have m1 := DX.out.c1
        have m2 := DX.out.c2
        obtain ⟨u0, u1, u2, c0, c1, c2⟩ : ∃ u0 u1 u2, wX.cell? ⟨g, k * 3, none⟩ = some u0 ∧ wX.cell? ⟨g, k * 3 + 1, none⟩ = some u1 ∧ wX.cell? ⟨g, k * 3 + 2, none⟩ = some u2 := ⟨_, _, _, OK.cells k (by rw [List.length_append, hPk, List.length_replicate]; omega) (by omega)⟩
        have r0 := OK.frozen (k * 3)
        have r1 := OK.frozen (k * 3 + 1)
        have r2 := OK.frozen (k * 3 + 2)
        have O3 := OK.set3 k (prF t) (.slice a_r (prZ t).length c_r) (.slice e_r (prD t).length f_r) (by rw [List.length_append, hPk, List.length_replicate]; omega) (OwnR.base oX.out HBk.out.size) (fun j hj _ a a' h1 h2 => by have h3 := (L9.out a (.inr ⟨_, List.getElem_mem hj, h1⟩)).2; have h4 := (lr a' h2).1; omega) (fun a h2 => by have h4 := (lr a h2).1; omega)
        rw [grow_setF hPk hlt] at O3
        have B3 := ((B9.out.setCell (p := ⟨g, k * 3, none⟩) HG.out (.bool (prF t).neg)).setCell (p := ⟨g, k * 3 + 1, none⟩) HG.out (.slice a_r (prZ t).length c_r)).setCell (p := ⟨g, k * 3 + 2, none⟩) HG.out (.slice e_r (prD t).length f_r)
        have hpn : (prF t).neg = prB t := rfl
        rw [hpn] at O3 B3
        have O4 := Lib.hid O3
        have B4 := Lib.hid B3
        clear O3 B3 OK o_r PR bX oX d0 hxl hPk hpn B9
        rw [hwX] at O4 B4 m0 m1 m2 c0 c1 c2 r0 r1 r2
        clear hwX DX
        go_wp2_with fail
        exact ⟨⟨k + 1, by omega, by go_num, _, Lib.hid (by rw [take_prF hlt1, ← HT.out]; exact O4.out), Lib.hid (all_prOk hlt1 HA.out (by rw [← HT.out]; exact hq)), B4⟩, by simp [intOf]; omega⟩
    · obtain rfl : k = n := by omega
      have hT1 : P.take k = P := List.take_of_length_le (Nat.le_of_eq HN.out)
      rw [hT1, Nat.sub_self, List.replicate_zero, List.append_nil] at HK
      rw [hT1] at HA
      have hyes := pv_yes N0.out (by rw [← HPs.out, HA.out, decide_eq_true (by rw [HN.out]; exact h24)]; rfl)
      rw [← HPs.out] at hyes
      obtain rfl : ZB = true := HZ.out.1.trans hyes.1
      obtain rfl : ZL = P.map prF := HZ.out.2.trans hyes.2
      have B2 := Lib.hid (B1.out.trans (HBk.out.mono B1.out.size))
      have O2 := Lib.hid (HK.out.base B1.out.size)
      clear hyes
      go_wp2_with fail
      exact bodyPost_ret (v := .tuple #[.slice (some ⟨g, 0, none⟩) k k, .bool true]) (by simp [results, Tryz.results11, go_sem]) rfl ⟨_, xs, rfl, O2.out, B2.out⟩

end Go.Proofs.YtdajldenjeanhaaGreatDoor
