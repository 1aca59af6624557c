/- MatrixOf of the model; RatFromInt's contract open. -/
import Derived.Test.YtojklmckjebplaaMatTr
namespace Go.Proofs.Ytojklmckjebplaa
open Go.RowKit Go.WideShapes Go.ChangeShapes
set_option linter.unusedVariables false
set_option linter.unusedSimpArgs false
def moB (r c : Int) (l : List Int) : Bool := dimB r && (dimB c && decide ((l.length : Int) = r * c))
def moL (ri : Int → Fr) (r c : Int) (l : List Int) : List Fr := if moB r c l then l.map ri else []
def moR (r c : Int) (l : List Int) : Int := if moB r c l then r else 0
def moC (r c : Int) (l : List Int) : Int := if moB r c l then c else 0
theorem mo_no {ri : Int → Fr} {r c : Int} {l : List Int} (h : moB r c l = false) : moL ri r c l = [] ∧ moR r c l = 0 ∧ moC r c l = 0 := by unfold moL moR moC; rw [h]; exact ⟨rfl, rfl, rfl⟩
theorem mo_yes {ri : Int → Fr} {r c : Int} {l : List Int} (h : moB r c l = true) : moL ri r c l = l.map ri ∧ moR r c l = r ∧ moC r c l = c := by unfold moL moR moC; rw [h]; exact ⟨rfl, rfl, rfl⟩
/-- A list of numbers that came in: its row, and each number lies in an int's range. -/
theorem ints_in2 {H : Type} {enc : TypeId × Value → H} {W : World} {a : Option Addr} {l c : Nat} {d : DataW H} {p : List MemPlace}
    (h : DataW.Trod enc Try.prog W 0 (fun _ => true) true 38 (Value.slice a l c) d p) : ∃ zs, RowOf iV W (.slice a l c) zs ∧ ∀ k (hk : k < zs.length), -9223372036854775808 ≤ zs[k]'hk ∧ zs[k]'hk ≤ 9223372036854775807 := by
  obtain ⟨zs, hr, _⟩ := ints_in h
  obtain ⟨fuel, hf⟩ := h
  rcases open_ints Try.underlying38 Try.underlying3 (by kernel_rfl) hf with ⟨hcs, _⟩ | ⟨x, l', c', ys, hcs, _, hl, hm, hz, _, hcell, hwz⟩
  · simp [Value.cells] at hcs
    obtain ⟨rfl, rfl, rfl⟩ := hcs
    have hr0 := hr
    obtain ⟨a', c', e, _, _, _⟩ := hr
    injection e with _ e2 _
    exact ⟨zs, hr0, fun k hk => by omega⟩
  · simp [Value.cells] at hcs
    obtain ⟨rfl, rfl, rfl⟩ := hcs
    have hz' : ys.length = c := by simpa using hz
    have hr0 := hr
    obtain ⟨a', c', e, hc1, hc2, hcell2⟩ := hr
    injection e with e1 e2 e3
    subst e1 e2 e3
    refine ⟨zs, hr0, fun k hk => ?_⟩
    obtain ⟨b, o, hx, hv⟩ := hcell2 k hk
    injection hx with hx
    subst hx
    have hky : k < ys.length := by rw [hz']; omega
    have hc := hcell k hky
    rw [add_plain, hv, getD_at hky] at hc
    injection hc with hc
    injection hc with _ hc
    rw [hc]
    have hw := hwz _ (List.getElem_mem hky)
    simpa [Lit.wf, IntKind.min, IntKind.max, IntKind.signed, IntKind.bits] using hw
theorem map_take_succ {α β : Type} (f : α → β) (l : List α) (k : Nat) (h : k < l.length) : (l.take (k + 1)).map f = (l.take k).map f ++ [f (l[k]'h)] := by rw [List.take_succ_eq_append_getElem h, List.map_append]; rfl

set_option maxRecDepth 100000 in
set_option maxHeartbeats 2000000 in
theorem spec_matrixOf (ri : Int → Fr)
    (HRI : ∀ (i : Int) w, (-9223372036854775808 ≤ i ∧ i ≤ 9223372036854775807) → Calls Try.prog 63 #[.int .i64 i] w fun e w' => ∃ x y, e = .returned (.agg #[.bool (ri i).neg, x, y]) ∧ OwnR w' w.heap.size x (ri i).mag y (ri i).den ∧ Below w.heap.size w w')
    (r c : Int) (v : Value) (l : List Int) (w : World) (h : RowOf iV w v l) (hr : -9223372036854775808 ≤ r ∧ r ≤ 9223372036854775807) (hc : -9223372036854775808 ≤ c ∧ c ≤ 9223372036854775807) (hl : ∀ k (hk : k < l.length), -9223372036854775808 ≤ l[k]'hk ∧ l[k]'hk ≤ 9223372036854775807) :
    Calls Try.prog 27 #[.int .i64 r, .int .i64 c, v] w fun e w' => ∃ u xs, e = .returned (.agg #[.int .i64 (moR r c l), .int .i64 (moC r c l), u]) ∧ OwnV w' w.heap.size u (moL ri r c l) xs ∧ Below w.heap.size w w' := by
  have HL := Lib.hid hl
  clear hl
  obtain ⟨a, cap, rfl, hcp, hm, hcell⟩ := h
  unfold maxLen at hm
  have RA := Lib.hid hcell
  clear hcell
  obtain ⟨n, hnn⟩ : ∃ n, l.length = n := ⟨_, rfl⟩
  rw [hnn] at hcp ⊢
  have HN := Lib.hid hnn
  clear hnn
  cases q0 : dimB r with
  | false =>
    have p0 : (decide (0 ≤ r) && decide (r ≤ 24)) = false := q0
    have HF := (show moB r c l = false by unfold moB; rw [q0]; rfl)
    rw [(mo_no (ri := ri) HF).1, (mo_no (ri := ri) HF).2.1, (mo_no (ri := ri) HF).2.2]
    clear HF
    go_enter Try.func27, Try.ntmps27
    go_wp2_with fail
    obtain ⟨W0, hW0⟩ : ∃ x, x = w.alloc (.cells #[.int .i64 0, .int .i64 0, .slice none 0 0] 25) := ⟨_, rfl⟩
    have Z := Lib.hid (show B3 W0 w.heap.size 25 (.int .i64 0) (.int .i64 0) (.slice none 0 0) by rw [hW0]; exact B3.new _ _ _ _ _)
    have B0 := Lib.hid (show Below w.heap.size w W0 by rw [hW0]; exact (Below.refl _ _).alloc (Nat.le_refl _) _)
    rw [← hW0]
    clear hW0
    refine (spec_in _ _ _ _).mono ?_
    rw [p0]
    rintro e w' ⟨rfl, h9⟩
    replace h9 := h9.symm
    subst h9
    have z0 := Z.out.c0
    have z1 := Z.out.c1
    have z2 := Z.out.c2
    have x0 := Z.out.f 0
    have x1 := Z.out.f 1
    have x2 := Z.out.f 2
    have V9 := Lib.hid (OwnV.set3_b3 (OwnV.nil _ w.heap.size) Z.out (by decide) (by decide) (.int .i64 0) (.int .i64 0) (.slice none 0 0))
    have B9 := Lib.hid (((B0.out.setCell (p := ⟨w.heap.size, 0, none⟩) (by simp) (.int .i64 0)).setCell (p := ⟨w.heap.size, 1, none⟩) (by simp) (.int .i64 0)).setCell (p := ⟨w.heap.size, 2, none⟩) (by simp) (.slice none 0 0))
    have D8 := Z.out.set3 (.int .i64 0) (.int .i64 0) (.slice none 0 0)
    have hc0 := D8.c0; have hc1 := D8.c1; have hc2 := D8.c2
    clear D8
    go_wp2_with fail
    exact bodyPost_ret (v := .agg #[(.int .i64 0), (.int .i64 0), (.slice none 0 0)]) (by simp [results, Try.results27, go_sem, hc0, hc1, hc2]) rfl ⟨_, _, rfl, V9.out, B9.out⟩
  | true =>
  have p0 : (decide (0 ≤ r) && decide (r ≤ 24)) = true := q0
  cases q1 : dimB c with
  | false =>
    have p1 : (decide (0 ≤ c) && decide (c ≤ 24)) = false := q1
    have HF := (show moB r c l = false by unfold moB; rw [q0, q1]; rfl)
    rw [(mo_no (ri := ri) HF).1, (mo_no (ri := ri) HF).2.1, (mo_no (ri := ri) HF).2.2]
    clear HF
    go_enter Try.func27, Try.ntmps27
    go_wp2_with fail
    obtain ⟨W0, hW0⟩ : ∃ x, x = w.alloc (.cells #[.int .i64 0, .int .i64 0, .slice none 0 0] 25) := ⟨_, rfl⟩
    have Z := Lib.hid (show B3 W0 w.heap.size 25 (.int .i64 0) (.int .i64 0) (.slice none 0 0) by rw [hW0]; exact B3.new _ _ _ _ _)
    have B0 := Lib.hid (show Below w.heap.size w W0 by rw [hW0]; exact (Below.refl _ _).alloc (Nat.le_refl _) _)
    rw [← hW0]
    clear hW0
    refine (spec_in _ _ _ _).mono ?_
    rw [p0]
    rintro e w' ⟨rfl, h9⟩
    replace h9 := h9.symm
    subst h9
    go_wp2_with fail
    refine (spec_in _ _ _ _).mono ?_
    rw [p1]
    rintro e w' ⟨rfl, h9⟩
    replace h9 := h9.symm
    subst h9
    have z0 := Z.out.c0
    have z1 := Z.out.c1
    have z2 := Z.out.c2
    have x0 := Z.out.f 0
    have x1 := Z.out.f 1
    have x2 := Z.out.f 2
    have V9 := Lib.hid (OwnV.set3_b3 (OwnV.nil _ w.heap.size) Z.out (by decide) (by decide) (.int .i64 0) (.int .i64 0) (.slice none 0 0))
    have B9 := Lib.hid (((B0.out.setCell (p := ⟨w.heap.size, 0, none⟩) (by simp) (.int .i64 0)).setCell (p := ⟨w.heap.size, 1, none⟩) (by simp) (.int .i64 0)).setCell (p := ⟨w.heap.size, 2, none⟩) (by simp) (.slice none 0 0))
    have D8 := Z.out.set3 (.int .i64 0) (.int .i64 0) (.slice none 0 0)
    have hc0 := D8.c0; have hc1 := D8.c1; have hc2 := D8.c2
    clear D8
    go_wp2_with fail
    exact bodyPost_ret (v := .agg #[(.int .i64 0), (.int .i64 0), (.slice none 0 0)]) (by simp [results, Try.results27, go_sem, hc0, hc1, hc2]) rfl ⟨_, _, rfl, V9.out, B9.out⟩
  | true =>
  have p1 : (decide (0 ≤ c) && decide (c ≤ 24)) = true := q1
  obtain ⟨hm0, hm1⟩ := dim_mul q0 q1
  by_cases q2 : (n : Int) = r * c
  rotate_left
  · have hne : ((n : Int) == r * c) = false := by rw [beq_eq_false_iff_ne]; exact q2
    have hne2 : ((n : Int) != r * c) = true := by unfold bne; rw [hne]; rfl
    have HF := (show moB r c l = false by unfold moB; rw [q0, q1, decide_eq_false (by rw [HN.out]; exact q2)]; rfl)
    rw [(mo_no (ri := ri) HF).1, (mo_no (ri := ri) HF).2.1, (mo_no (ri := ri) HF).2.2]
    clear HF
    go_enter Try.func27, Try.ntmps27
    go_wp2_with fail
    obtain ⟨W0, hW0⟩ : ∃ x, x = w.alloc (.cells #[.int .i64 0, .int .i64 0, .slice none 0 0] 25) := ⟨_, rfl⟩
    have Z := Lib.hid (show B3 W0 w.heap.size 25 (.int .i64 0) (.int .i64 0) (.slice none 0 0) by rw [hW0]; exact B3.new _ _ _ _ _)
    have B0 := Lib.hid (show Below w.heap.size w W0 by rw [hW0]; exact (Below.refl _ _).alloc (Nat.le_refl _) _)
    rw [← hW0]
    clear hW0
    refine (spec_in _ _ _ _).mono ?_
    rw [p0]
    rintro e w' ⟨rfl, h9⟩
    replace h9 := h9.symm
    subst h9
    go_wp2_with fail
    refine (spec_in _ _ _ _).mono ?_
    rw [p1]
    rintro e w' ⟨rfl, h9⟩
    replace h9 := h9.symm
    subst h9
    have z0 := Z.out.c0
    have z1 := Z.out.c1
    have z2 := Z.out.c2
    have x0 := Z.out.f 0
    have x1 := Z.out.f 1
    have x2 := Z.out.f 2
    have V9 := Lib.hid (OwnV.set3_b3 (OwnV.nil _ w.heap.size) Z.out (by decide) (by decide) (.int .i64 0) (.int .i64 0) (.slice none 0 0))
    have B9 := Lib.hid (((B0.out.setCell (p := ⟨w.heap.size, 0, none⟩) (by simp) (.int .i64 0)).setCell (p := ⟨w.heap.size, 1, none⟩) (by simp) (.int .i64 0)).setCell (p := ⟨w.heap.size, 2, none⟩) (by simp) (.slice none 0 0))
    have D8 := Z.out.set3 (.int .i64 0) (.int .i64 0) (.slice none 0 0)
    have hc0 := D8.c0; have hc1 := D8.c1; have hc2 := D8.c2
    clear D8
    go_wp2_with fail
    exact bodyPost_ret (v := .agg #[(.int .i64 0), (.int .i64 0), (.slice none 0 0)]) (by simp [results, Try.results27, go_sem, hc0, hc1, hc2]) rfl ⟨_, _, rfl, V9.out, B9.out⟩
  have hne : ((n : Int) == r * c) = true := by rw [beq_iff_eq]; exact q2
  have hne2 : ((n : Int) != r * c) = false := by unfold bne; rw [hne]; rfl
  have HF := (show moB r c l = true by unfold moB; rw [q0, q1, decide_eq_true (by rw [HN.out]; exact q2)]; rfl)
  rw [(mo_yes (ri := ri) HF).1, (mo_yes (ri := ri) HF).2.1, (mo_yes (ri := ri) HF).2.2]
  clear HF
  have hn : n ≤ 576 := by omega
  obtain ⟨ZL, hZL⟩ : ∃ x, x = l.map ri := ⟨_, rfl⟩
  rw [← hZL]
  have HZ := Lib.hid hZL
  clear hZL q0 q1 q2
  go_enter Try.func27, Try.ntmps27
  go_wp2_with fail
  obtain ⟨W0, hW0⟩ : ∃ x, x = w.alloc (.cells #[.int .i64 0, .int .i64 0, .slice none 0 0] 25) := ⟨_, rfl⟩
  have Z := Lib.hid (show B3 W0 w.heap.size 25 (.int .i64 0) (.int .i64 0) (.slice none 0 0) by rw [hW0]; exact B3.new _ _ _ _ _)
  have B0 := Lib.hid (show Below w.heap.size w W0 by rw [hW0]; exact (Below.refl _ _).alloc (Nat.le_refl _) _)
  rw [← hW0]
  clear hW0
  refine (spec_in _ _ _ _).mono ?_
  rw [p0]
  rintro e w' ⟨rfl, h9⟩
  replace h9 := h9.symm
  subst h9
  go_wp2_with fail
  refine (spec_in _ _ _ _).mono ?_
  rw [p1]
  rintro e w' ⟨rfl, h9⟩
  replace h9 := h9.symm
  subst h9
  go_wp2_with fail
  clear p0 p1 hm0 hm1 hne hne2
  obtain ⟨pO, hpO⟩ : ∃ x, x = W0.heap.size := ⟨_, rfl⟩
  obtain ⟨W3, hW3⟩ : ∃ x, x = W0.alloc (.cells #[.int .i64 r, .int .i64 c, .slice none 0 0] 25) := ⟨_, rfl⟩
  have Y0 := Lib.hid (show B3 W3 w.heap.size 25 (.int .i64 0) (.int .i64 0) (.slice none 0 0) by rw [hW3]; exact Z.out.alloc _)
  have O0 := Lib.hid (show B3 W3 pO 25 (.int .i64 r) (.int .i64 c) (.slice none 0 0) by rw [hW3, hpO]; exact B3.new _ _ _ _ _)
  have B3_ := Lib.hid (show Below w.heap.size w W3 by rw [hW3]; exact B0.out.alloc B0.out.size _)
  have PO := Lib.hid (show w.heap.size < pO by rw [hpO]; exact Z.out.lt)
  rw [← hW3, ← hpO]
  clear hW3 hpO Z B0
  go_loopw [32] (fun iv wr => ∃ (k : Nat) (vo : Value) (xs : List (Value × Value)), k ≤ n ∧ iv = .int .i64 k ∧ Hid (B3 wr w.heap.size 25 (.int .i64 0) (.int .i64 0) (.slice none 0 0)) ∧ Hid (B3 wr pO 25 (.int .i64 r) (.int .i64 c) vo) ∧ Hid (OwnV wr w.heap.size vo ((l.take k).map ri) xs) ∧ Hid (Below w.heap.size w wr)) (fun iv _ => n - (intOf iv).toNat)
  case atStart => exact ⟨0, .slice none 0 0, [], Nat.zero_le _, rfl, Y0, O0, Lib.hid (OwnV.nil _ _), B3_⟩
  case round =>
    clear Y0 O0 B3_
    obtain ⟨k, vo, xs, hk, rfl, Y, O, V, B⟩ := hrel
    by_cases hlt : k < n
    · have hlt0 : k < l.length := by rw [HN.out]; exact hlt
      obtain ⟨b, o, rfl, c0⟩ := RA.out k hlt0
      have d0 := (B.out.cell (World.block_lt_of_cell? w _ c0)).trans c0
      clear c0 RA
      have HQ := Lib.hid (HL.out k hlt0)
      have HP := Lib.hid (map_take_succ ri l k hlt0)
      have HPL := Lib.hid (show ((l.take k).map ri).length ≤ 100000 by simp; omega)
      obtain ⟨z, hz⟩ : ∃ z, z = l[k]'hlt0 := ⟨_, rfl⟩
      obtain ⟨P, hP⟩ : ∃ P, P = (l.take k).map ri := ⟨_, rfl⟩
      obtain ⟨h, hh⟩ : ∃ h, h = ri z := ⟨_, rfl⟩
      rw [← hz] at HQ HP d0
      rw [← hP] at HP HPL V
      rw [← hh] at HP
      clear hz hP hlt0
      unfold iV at d0
      go_wp2_with fail
      clear d0
      have y2 := O.out.c2
      have y3 := O.out.f 2
      have HO := Lib.hid (fun W (hW : Below wr.heap.size wr W) => O.out.below hW)
      have BS := Lib.hid B.out.size
      have L9 := Lib.hid V.out.lt
      have HAT := Lib.hid (fun W (hW : Below wr.heap.size wr W) => (HRI z W HQ.out).mono (R' := fun e w' => ∃ x y, e = .returned (.agg #[.bool h.neg, x, y]) ∧ OwnR w' wr.heap.size x h.mag y h.den ∧ Below wr.heap.size wr w') (fun e w' ⟨x, y, he, hr, hb⟩ => ⟨x, y, by rw [hh]; exact he, by rw [hh]; exact hr.base hW.size, hW.trans (hb.mono hW.size)⟩))
      clear hh
      go_region_law (first
        | (have hbb := bb_c.size; have lr := O_c.out.lt; refine step_append_rat rfl _ _ rfl w.heap.size vo P xs rfl (by first | with_reducible exact (V.out.below bb_c).alloc _ | with_reducible exact ((V.out.below bb_c).alloc _).drew | fail) HPL.out (by have := BS.out; simp; omega) _ _ rfl h _ _ (by first | exact World.alloc_heap_new _ _ | fail) (OwnR.base (O_c.out.alloc _) BS.out) (fun i hi r r' h1 h2 => by have h3 := (L9.out r (.inr ⟨_, List.getElem_mem hi, h1⟩)).2; have h4 := (lr r' h2).1; omega) (fun r h2 h1 => by have h3 := (L9.out r (.inl h1)).2; have h4 := (lr r h2).1; omega) ?_; intro v_n w_n o_n g_n l_n; have VV := (V.out.below bb_c).alloc (.cells #[.bool h.neg, .slice a_c h.mag.length c_c, .slice e_c h.den.length f_c] 42); have O5 := ((HO.out _ bb_c).alloc (.cells #[.bool h.neg, .slice a_c h.mag.length c_c, .slice e_c h.den.length f_c] 42)).grown VV (by decide) (by decide) g_n; have s2 := O5.c2; have s3 := O5.f 2; obtain ⟨g9, c9, hv9⟩ := o_n.slice; subst hv9; rw [show (P ++ [h]).length = P.length + 1 from by simp] at o_n ⊢)
        | (go_simp; go_at_call 63; refine (HAT.out _ (by first | with_reducible exact Below.refl _ _ | with_reducible exact (Below.refl _ _).drew | fail)).mono ?_; rintro e w_c ⟨x_c, y_c, rfl, o_c, bb_c⟩; obtain ⟨a_c, c_c, e_c, f_c, rfl, rfl⟩ := o_c.slices; have O_c := Lib.hid o_c; have q2 := ((HO.out _ bb_c).alloc (.cells #[.bool h.neg, .slice a_c h.mag.length c_c, .slice e_c h.den.length f_c] 42)).c2; have Y9 := HO.out _ bb_c; have s2 := Y9.c2; have s3 := Y9.f 2)
        | fail)
      all_goals go_wp2_with fail
      all_goals exact ⟨⟨k + 1, _, _, by omega, by go_num, Lib.hid ((((Y.out.below bb_c).alloc _).grown VV (by decide) (by decide) g_n).far (by have := PO.out; omega) _), Lib.hid (O5.set2 _), Lib.hid (by rw [HP.out]; exact o_n.set_b3 O5 (by decide) (by decide) 2 _), Lib.hid ((((B.out.trans (bb_c.mono BS.out)).alloc (Nat.le_trans BS.out hbb) _).grown g_n (by have := BS.out; simp; omega) (fun q hq => (L9.out q (.inl hq)).1)).setCell (by have := PO.out; simp; omega) _)⟩, by simp [intOf]; omega⟩
    · obtain rfl : k = n := by omega
      have hT0 : l.take k = l := by rw [← HN.out, List.take_length]
      rw [hT0, ← HZ.out] at V
      clear hT0
      have y0 := O.out.c0
      have y1 := O.out.c1
      have y2 := O.out.c2
      obtain ⟨g9, c9, rfl⟩ := V.out.slice
      replace Z := Y
      replace B0 := B
      have z0 := Z.out.c0
      have z1 := Z.out.c1
      have z2 := Z.out.c2
      have x0 := Z.out.f 0
      have x1 := Z.out.f 1
      have x2 := Z.out.f 2
      have V9 := Lib.hid (OwnV.set3_b3 V.out Z.out (by decide) (by decide) (.int .i64 r) (.int .i64 c) (.slice g9 ZL.length c9))
      have B9 := Lib.hid (((B0.out.setCell (p := ⟨w.heap.size, 0, none⟩) (by simp) (.int .i64 r)).setCell (p := ⟨w.heap.size, 1, none⟩) (by simp) (.int .i64 c)).setCell (p := ⟨w.heap.size, 2, none⟩) (by simp) (.slice g9 ZL.length c9))
      have D8 := Z.out.set3 (.int .i64 r) (.int .i64 c) (.slice g9 ZL.length c9)
      have hc0 := D8.c0; have hc1 := D8.c1; have hc2 := D8.c2
      clear D8
      go_wp2_with fail
      exact bodyPost_ret (v := .agg #[(.int .i64 r), (.int .i64 c), (.slice g9 ZL.length c9)]) (by simp [results, Try.results27, go_sem, hc0, hc1, hc2]) rfl ⟨_, _, rfl, V9.out, B9.out⟩

end Go.Proofs.Ytojklmckjebplaa
