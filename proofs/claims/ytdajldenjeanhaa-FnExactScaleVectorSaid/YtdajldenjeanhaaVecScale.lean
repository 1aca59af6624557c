/- ScaleVector of the model and of the program. -/
import Derived.Test.YtdajldenjeanhaaVecComb
import Derived.Test.YtdajldenjeanhaaVecRep
namespace Go.Proofs.Ytdajldenjeanhaa
open Go.RowKit Go.WideShapes Go.ChangeShapes
set_option linter.unusedVariables false
set_option linter.unusedSimpArgs false
def sclF (f : Fr) (L : List Fr) : List Fr := zipF mulX (List.replicate L.length f) L
def sclB (f : Fr) (L : List Fr) : Bool := okF f && (vecB ratOk L && fineV (sclF f L))
def sclL (f : Fr) (L : List Fr) : List Fr := if sclB f L then sclF f L else []
theorem scl_no {f : Fr} {L : List Fr} (h : sclB f L = false) : sclL f L = [] := by unfold sclL; rw [h]; rfl
theorem scl_yes {f : Fr} {L : List Fr} (h : sclB f L = true) : sclL f L = sclF f L := by unfold sclL; rw [h]; rfl
theorem scl_ok {f : Fr} {L : List Fr} (h0 : okF f = true) (h1 : vecB ratOk L = true) : sclB f L = fineV (sclF f L) := by unfold sclB; rw [h0, h1]; rfl

set_option maxRecDepth 100000 in
set_option maxHeartbeats 2000000 in
theorem spec_scaleV (f : Fr) (v d v1 : Value) (L : List Fr) (w : World) (h0 : RowR w v f.mag d f.den) (h1 : RatsAt w v1 L) :
    Calls Try.prog 27 #[.agg #[.bool f.neg, v, d], v1] w fun e w' => ∃ u xs, e = .returned (.tuple #[u, .bool (sclB f L)]) ∧ OwnV w' w.heap.size u (sclL f L) xs ∧ Below w.heap.size w w' := by
  have H0 := Lib.hid h0
  have H1 := Lib.hid h1
  have KOK := Lib.hid (fun (W : World) (hW : Below w.heap.size w W) => spec_ratOk f.neg v f.mag d f.den W (h0.below hW))
  change Hid (∀ (W : World), Below w.heap.size w W → Calls _ _ _ _ (fun e w' => e = .returned (.bool (okF f)) ∧ _)) at KOK
  have KV := Lib.hid (fun (W : World) (hW : Below w.heap.size w W) => spec_isV v1 L W (h1.below hW))
  obtain ⟨a0, c0, e0, k0, rfl, rfl⟩ := fr_forms h0
  obtain ⟨a', cap', rfl, hc', hm', hr'⟩ := h1
  have R := Lib.hid hr'
  clear hr' h0
  unfold maxLen at hm'
  obtain ⟨n, hnn⟩ : ∃ n, L.length = n := ⟨_, rfl⟩
  rw [hnn] at hc' H1 KV ⊢
  have HN := Lib.hid hnn
  clear hnn
  obtain ⟨nx, hnx⟩ : ∃ n, f.mag.length = n := ⟨_, rfl⟩
  obtain ⟨nd, hnd⟩ : ∃ n, f.den.length = n := ⟨_, rfl⟩
  rw [hnx, hnd] at H0 KOK ⊢
  clear hnx hnd
  obtain ⟨ZB, hZB⟩ : ∃ b, b = sclB f L := ⟨_, rfl⟩
  obtain ⟨ZL, hZL⟩ : ∃ b, b = sclL f L := ⟨_, rfl⟩
  rw [← hZB, ← hZL]
  have HZ := Lib.hid (And.intro hZB hZL)
  clear hZB hZL
  cases q0 : okF f with
  | false =>
    obtain rfl : ZB = false := HZ.out.1.trans (by unfold sclB; rw [q0]; rfl)
    obtain rfl : ZL = [] := HZ.out.2.trans (scl_no (by unfold sclB; rw [q0]; rfl))
    rw [q0] at KOK
    go_enter Try.func27, Try.ntmps27
    go_wp2_with fail
    refine (KOK.out _ ((Below.refl _ _).alloc (Nat.le_refl _) _)).mono ?_
    rintro e w1 ⟨rfl, b1⟩
    have B1 := Lib.hid (((Below.refl w.heap.size w).alloc (Nat.le_refl _) (.cells #[.bool f.neg, .slice a0 nx c0, .slice e0 nd k0] 46)).trans (b1.mono (by simp)))
    clear b1
    go_wp2
    exact bodyPost_ret (v := .tuple #[.slice none 0 0, .bool false]) (by simp [results, Try.results27, go_sem]) rfl ⟨.slice none 0 0, [], rfl, OwnV.nil _ _, B1.out⟩
  | true =>
  rw [q0] at KOK
  cases q1 : vecB ratOk L with
  | false =>
    obtain rfl : ZB = false := HZ.out.1.trans (by unfold sclB; rw [q1]; simp)
    obtain rfl : ZL = [] := HZ.out.2.trans (scl_no (by unfold sclB; rw [q1]; simp))
    rw [q1] at KV
    go_enter Try.func27, Try.ntmps27
    go_wp2_with fail
    refine (KOK.out _ ((Below.refl _ _).alloc (Nat.le_refl _) _)).mono ?_
    rintro e w1 ⟨rfl, b1⟩
    have B1 := Lib.hid (((Below.refl w.heap.size w).alloc (Nat.le_refl _) (.cells #[.bool f.neg, .slice a0 nx c0, .slice e0 nd k0] 46)).trans (b1.mono (by simp)))
    clear b1
    go_wp2_with fail
    refine (KV.out _ B1.out).mono ?_
    rintro e w2 ⟨rfl, b2⟩
    have B2 := Lib.hid (B1.out.trans (b2.mono B1.out.size))
    clear b2
    go_wp2
    exact bodyPost_ret (v := .tuple #[.slice none 0 0, .bool false]) (by simp [results, Try.results27, go_sem]) rfl ⟨.slice none 0 0, [], rfl, OwnV.nil _ _, B2.out⟩
  | true =>
  rw [q1] at KV
  have EF := Lib.hid q0
  have hl2 := (vec_parts q1).1
  rw [HN.out] at hl2
  have E1 := Lib.hid (vec_parts q1).2
  have HS := Lib.hid (scl_ok q0 q1)
  clear q0 q1
  go_enter Try.func27, Try.ntmps27
  go_wp2_with fail
  obtain ⟨W0, hW0⟩ : ∃ x, x = w.alloc (.cells #[.bool f.neg, .slice a0 nx c0, .slice e0 nd k0] 46) := ⟨_, rfl⟩
  have D_r := Lib.hid (show Rx W0 w.heap.size 46 f.neg (.slice a0 nx c0) (.slice e0 nd k0) by rw [hW0]; exact Rx.new _ _ _ _ _)
  have B0 := Lib.hid (show Below w.heap.size w W0 by rw [hW0]; exact (Below.refl _ _).alloc (Nat.le_refl _) _)
  rw [← hW0]
  clear hW0
  refine (KOK.out _ B0.out).mono ?_
  rintro e w1 ⟨rfl, b1⟩
  have BB1 := Lib.hid b1
  clear b1
  go_wp2_with fail
  refine (KV.out _ (B0.out.trans (BB1.out.mono B0.out.size))).mono ?_
  rintro e w2 ⟨rfl, b2⟩
  have BB2 := Lib.hid (BB1.out.trans (b2.mono BB1.out.size))
  clear b2 BB1
  go_wp2_with fail
  obtain ⟨W3, hW3⟩ : ∃ x, x = w2.alloc (.cells #[] 46) := ⟨_, rfl⟩
  have HO := Lib.hid (show OwnV W3 W0.heap.size (.slice (some ⟨w2.heap.size, 0, none⟩) 0 0) [] [] by rw [hW3]; exact (OwnV.lit0 w2).base BB2.out.size)
  have HB := Lib.hid (show Below W0.heap.size W0 W3 by rw [hW3]; exact BB2.out.alloc BB2.out.size _)
  rw [← hW3]
  clear hW3 BB2
  go_loopw [6, 20] (fun ov iv wr => ∃ (k : Nat) (vo : Value), k ≤ n ∧ iv = .int .i64 k ∧ vo = ov ∧ ∃ xs, Hid (OwnV wr W0.heap.size vo (zipF mulX ((List.replicate n f).take k) (L.take k)) xs) ∧ Hid (Below W0.heap.size W0 wr)) (fun _ iv _ => n - (intOf iv).toNat)
  case atStart => exact ⟨0, _, Nat.zero_le _, rfl, rfl, _, HO, HB⟩
  case round =>
    obtain ⟨k, vo, hk, rfl, rfl, xs, HK, HBk⟩ := hrel
    by_cases hlt : k < n
    · have hlt1 : k < L.length := by rw [HN.out]; exact hlt
      have hlt0 : k < (List.replicate n f).length := by simpa using hlt
      have HW := Lib.hid (B0.out.trans (HBk.out.mono B0.out.size))
      obtain ⟨b', o', x', y', rfl, g0, g1, g2, hss⟩ := R.out k hlt1
      have f0 := (HW.out.cell (World.block_lt_of_cell? w _ g0)).trans g0
      have f1 := (HW.out.cell (World.block_lt_of_cell? w _ g1)).trans g1
      have f2 := (HW.out.cell (World.block_lt_of_cell? w _ g2)).trans g2
      have SS := Lib.hid (hss.below HW.out)
      have RR := Lib.hid (H0.out.below HW.out)
      obtain ⟨a3, r3, a4, r4, rfl, rfl, hz3, hz4⟩ := rowR_len hss
      clear g0 g1 g2 R hss
      obtain ⟨wb, hwb⟩ : ∃ x, x = wr.alloc (.cells #[.bool (L[k]'hlt1).neg, .slice a3 (L[k]'hlt1).mag.length r3, .slice a4 (L[k]'hlt1).den.length r4] 46) := ⟨_, rfl⟩
      have bW : Below wr.heap.size wr wb := by rw [hwb]; exact (Below.refl wr.heap.size wr).alloc (Nat.le_refl _) _
      have DR := (D_r.out.below HBk.out).below bW
      have m0 := DR.c0
      have m1 := DR.c1
      have m2 := DR.c2
      rw [hwb] at m0 m1 m2
      go_wp2_with fail
      rw [← hwb]
      have O9 := Lib.hid (show OwnV wb W0.heap.size vo _ xs by rw [hwb]; exact HK.out.alloc _)
      have B9 := Lib.hid (show Below W0.heap.size W0 wb by rw [hwb]; exact HBk.out.alloc HBk.out.size _)
      have L9 := Lib.hid O9.out.lt
      have BW := Lib.hid B9.out.size
      refine (spec_mulF f (L[k]'hlt1) (small_ok EF.out) (small_ok (E1.out k hlt1)) _ _ _ _ wb (RR.out.below bW) (SS.out.below bW)).mono ?_
      rintro e w_r ⟨x_r, y_r, rfl, o_r, bb_r⟩
      obtain ⟨a_r, c_r, e_r, f_r, rfl, rfl⟩ := o_r.slices
      have hbb := bb_r.size
      have lr := o_r.lt
      have hlen : (zipF mulX ((List.replicate n f).take k) (L.take k)).length ≤ 100000 := Nat.le_trans zip_len (by simp; omega)
      clear hwb m0 m1 m2 DR f0 f1 f2 HK
      go_wp2_with (at_builtin; refine append_rat rfl _ _ rfl W0.heap.size vo _ xs rfl ((O9.out.below bb_r).alloc _) hlen (by have := BW.out; simp; omega) _ _ rfl (mulX f (L[k]'hlt1)) _ _ (World.alloc_heap_new _ _) (OwnR.base (o_r.alloc _) BW.out) (fun i hi r r' h1 h2 => by have h3 := (L9.out r (.inr ⟨_, List.getElem_mem hi, h1⟩)).2; have h4 := (lr r' h2).1; omega) (fun r h2 h1 => by have h3 := (L9.out r (.inl h1)).2; have h4 := (lr r h2).1; omega) ?_; intro v_n w_n o_n g_n l_n)
      exact ⟨⟨k + 1, v_n, by omega, by go_num, rfl, _, Lib.hid (by rw [zip_take hlt0 hlt1, List.getElem_replicate]; exact o_n), Lib.hid (((B9.out.trans (bb_r.mono B9.out.size)).alloc (Nat.le_trans BW.out bb_r.size) _).grown g_n (by have := BW.out; simp; omega) (fun q hq => (L9.out q (.inl hq)).1))⟩, by simp [intOf]; omega⟩
    · obtain rfl : k = n := by omega
      have hT0 : (List.replicate k f).take k = List.replicate k f := List.take_of_length_le (by simp)
      have hT1 : L.take k = L := by rw [← HN.out, List.take_length]
      have hT2 : zipF mulX (List.replicate k f) L = sclF f L := by unfold sclF; rw [HN.out]
      rw [hT0, hT1, hT2] at HK
      have T := spec_done vo _ _ HK.out.rats
      have B3 := Lib.hid (B0.out.trans (HBk.out.mono B0.out.size))
      cases hf : fineV (sclF f L) with
      | false =>
        rw [hf] at T
        obtain rfl : ZB = false := HZ.out.1.trans (HS.out.trans hf)
        obtain rfl : ZL = [] := HZ.out.2.trans (scl_no (HS.out.trans hf))
        go_wp2_with fail
        refine T.mono ?_
        rintro e w2 ⟨rfl, b2⟩
        have B2 := Lib.hid (B3.out.trans (b2.mono B3.out.size))
        clear b2
        go_wp2_with fail
        exact bodyPost_ret (v := .tuple #[.slice none 0 0, .bool false]) (by simp [results, Try.results27, go_sem]) rfl ⟨.slice none 0 0, [], rfl, OwnV.nil _ _, B2.out⟩
      | true =>
        rw [hf] at T
        obtain rfl : ZB = true := HZ.out.1.trans (HS.out.trans hf)
        obtain rfl : ZL = sclF f L := HZ.out.2.trans (scl_yes (HS.out.trans hf))
        go_wp2_with fail
        refine T.mono ?_
        rintro e w2 ⟨rfl, b2⟩
        have O2 := Lib.hid ((HK.out.below b2).base B0.out.size)
        have B2 := Lib.hid (B3.out.trans (b2.mono B3.out.size))
        clear b2
        go_wp2_with fail
        exact bodyPost_ret (v := .tuple #[vo, .bool true]) (by simp [results, Try.results27, go_sem]) rfl ⟨vo, xs, rfl, O2.out, B2.out⟩

set_option maxRecDepth 100000 in
set_option maxHeartbeats 2000000 in
theorem impl_scaleV (f : Fr) (v d v1 : Value) (L : List Fr) (w : World) (h0 : RowR w v f.mag d f.den) (h1 : RatsAt w v1 L) :
    Calls Try.prog 29 #[.agg #[.bool f.neg, v, d], v1] w fun e w' => ∃ u xs, e = .returned (.tuple #[u, .bool (sclB f L)]) ∧ OwnV w' w.heap.size u (sclL f L) xs ∧ Below w.heap.size w w' := by
  have H0 := Lib.hid h0
  have H1 := Lib.hid h1
  have KOK := Lib.hid (fun (W : World) (hW : Below w.heap.size w W) => impl_ratOk f.neg v f.mag d f.den W (h0.below hW))
  change Hid (∀ (W : World), Below w.heap.size w W → Calls _ _ _ _ (fun e w' => e = .returned (.bool (okF f)) ∧ _)) at KOK
  have KV := Lib.hid (fun (W : World) (hW : Below w.heap.size w W) => impl_isV v1 L W (h1.below hW))
  obtain ⟨a0, c0, e0, k0, rfl, rfl⟩ := fr_forms h0
  obtain ⟨a', cap', rfl, hc', hm', hr'⟩ := h1
  have R := Lib.hid hr'
  clear hr' h0
  unfold maxLen at hm'
  obtain ⟨n, hnn⟩ : ∃ n, L.length = n := ⟨_, rfl⟩
  rw [hnn] at hc' H1 KV ⊢
  have HN := Lib.hid hnn
  clear hnn
  obtain ⟨nx, hnx⟩ : ∃ n, f.mag.length = n := ⟨_, rfl⟩
  obtain ⟨nd, hnd⟩ : ∃ n, f.den.length = n := ⟨_, rfl⟩
  rw [hnx, hnd] at H0 KOK ⊢
  clear hnx hnd
  obtain ⟨ZB, hZB⟩ : ∃ b, b = sclB f L := ⟨_, rfl⟩
  obtain ⟨ZL, hZL⟩ : ∃ b, b = sclL f L := ⟨_, rfl⟩
  rw [← hZB, ← hZL]
  have HZ := Lib.hid (And.intro hZB hZL)
  clear hZB hZL
  cases q0 : okF f with
  | false =>
    obtain rfl : ZB = false := HZ.out.1.trans (by unfold sclB; rw [q0]; rfl)
    obtain rfl : ZL = [] := HZ.out.2.trans (scl_no (by unfold sclB; rw [q0]; rfl))
    rw [q0] at KOK
    go_enter Try.func29, Try.ntmps29
    go_wp2_with fail
    refine (KOK.out _ ((Below.refl _ _).alloc (Nat.le_refl _) _)).mono ?_
    rintro e w1 ⟨rfl, b1⟩
    have B1 := Lib.hid (((Below.refl w.heap.size w).alloc (Nat.le_refl _) (.cells #[.bool f.neg, .slice a0 nx c0, .slice e0 nd k0] 46)).trans (b1.mono (by simp)))
    clear b1
    go_wp2
    exact bodyPost_ret (v := .tuple #[.slice none 0 0, .bool false]) (by simp [results, Try.results29, go_sem]) rfl ⟨.slice none 0 0, [], rfl, OwnV.nil _ _, B1.out⟩
  | true =>
  rw [q0] at KOK
  cases q1 : vecB ratOk L with
  | false =>
    obtain rfl : ZB = false := HZ.out.1.trans (by unfold sclB; rw [q1]; simp)
    obtain rfl : ZL = [] := HZ.out.2.trans (scl_no (by unfold sclB; rw [q1]; simp))
    rw [q1] at KV
    go_enter Try.func29, Try.ntmps29
    go_wp2_with fail
    refine (KOK.out _ ((Below.refl _ _).alloc (Nat.le_refl _) _)).mono ?_
    rintro e w1 ⟨rfl, b1⟩
    have B1 := Lib.hid (((Below.refl w.heap.size w).alloc (Nat.le_refl _) (.cells #[.bool f.neg, .slice a0 nx c0, .slice e0 nd k0] 46)).trans (b1.mono (by simp)))
    clear b1
    go_wp2_with fail
    refine (KV.out _ B1.out).mono ?_
    rintro e w2 ⟨rfl, b2⟩
    have B2 := Lib.hid (B1.out.trans (b2.mono B1.out.size))
    clear b2
    go_wp2
    exact bodyPost_ret (v := .tuple #[.slice none 0 0, .bool false]) (by simp [results, Try.results29, go_sem]) rfl ⟨.slice none 0 0, [], rfl, OwnV.nil _ _, B2.out⟩
  | true =>
  rw [q1] at KV
  have EF := Lib.hid q0
  have hl2 := (vec_parts q1).1
  rw [HN.out] at hl2
  have E1 := Lib.hid (vec_parts q1).2
  have HS := Lib.hid (scl_ok q0 q1)
  clear q0 q1
  go_enter Try.func29, Try.ntmps29
  go_wp2_with fail
  obtain ⟨W0, hW0⟩ : ∃ x, x = w.alloc (.cells #[.bool f.neg, .slice a0 nx c0, .slice e0 nd k0] 46) := ⟨_, rfl⟩
  have D_r := Lib.hid (show Rx W0 w.heap.size 46 f.neg (.slice a0 nx c0) (.slice e0 nd k0) by rw [hW0]; exact Rx.new _ _ _ _ _)
  have B0 := Lib.hid (show Below w.heap.size w W0 by rw [hW0]; exact (Below.refl _ _).alloc (Nat.le_refl _) _)
  rw [← hW0]
  clear hW0
  refine (KOK.out _ B0.out).mono ?_
  rintro e w1 ⟨rfl, b1⟩
  have BB1 := Lib.hid b1
  clear b1
  go_wp2_with fail
  refine (KV.out _ (B0.out.trans (BB1.out.mono B0.out.size))).mono ?_
  rintro e w2 ⟨rfl, b2⟩
  have BB2 := Lib.hid (BB1.out.trans (b2.mono BB1.out.size))
  clear b2 BB1
  have DR := D_r.out.below BB2.out
  have m0 := DR.c0
  have m1 := DR.c1
  have m2 := DR.c2
  go_wp2_with fail
  have HW2 := B0.out.trans (BB2.out.mono B0.out.size)
  obtain ⟨W3, hW3⟩ : ∃ x, x = w2.alloc (.cells #[.bool f.neg, .slice a0 nx c0, .slice e0 nd k0] 46) := ⟨_, rfl⟩
  have hb3 : W3.heap[w2.heap.size]? = some (.cells #[.bool f.neg, .slice a0 nx c0, .slice e0 nd k0] 46) := by rw [hW3]; exact World.alloc_heap_new _ _
  have B3 := Lib.hid (show Below w.heap.size w W3 by rw [hW3]; exact HW2.alloc HW2.size _)
  rw [← hW3]
  clear hW3 m0 m1 m2 DR
  refine (impl_repeat f a0 c0 e0 k0 nx nd w2.heap.size n hl2 W3 (H0.out.below B3.out) hb3).mono ?_
  rintro e w4 ⟨v4, rfl, hr4, b4⟩
  have R4 := Lib.hid hr4
  obtain ⟨a4, c4, rfl, _⟩ := hr4
  rw [List.length_replicate] at R4 ⊢
  have B4 := Lib.hid (B3.out.trans (b4.mono B3.out.size))
  clear b4 hb3
  go_wp2_with fail
  refine (impl_combMul mulX (fun f g hf hg => impl_timesF f g hf hg) _ (List.replicate n f) _ L w4 R4.out (H1.out.below B4.out) (by simp [HN.out]) (by simp; omega) (fun k hk => by rw [List.getElem_replicate]; exact EF.out) E1.out).mono ?_
  rintro e w5 ⟨v5, xs, rfl, hv, b5⟩
  have hT2 : zipF mulX (List.replicate n f) L = sclF f L := by unfold sclF; rw [HN.out]
  have hT3 : cmbL mulX (List.replicate n f) L = sclL f L := by unfold cmbL sclL; rw [hT2, HS.out]
  rw [hT3] at hv
  rw [hT2]
  obtain rfl : ZB = fineV (sclF f L) := HZ.out.1.trans HS.out
  obtain rfl : ZL = sclL f L := HZ.out.2
  have O5 := Lib.hid (hv.base B4.out.size)
  have B5 := Lib.hid (B4.out.trans (b5.mono B4.out.size))
  obtain ⟨a9, c9, rfl⟩ := hv.slice
  clear hv b5
  go_wp2
  exact bodyPost_ret (v := .tuple #[.slice a9 (sclL f L).length c9, .bool (fineV (sclF f L))]) (by simp [results, Try.results29, go_sem]) rfl ⟨_, xs, rfl, O5.out, B5.out⟩

end Go.Proofs.Ytdajldenjeanhaa
