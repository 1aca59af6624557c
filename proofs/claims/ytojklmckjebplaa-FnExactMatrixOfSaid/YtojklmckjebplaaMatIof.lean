/- EqualMatrices and MatrixOf of the program; the contracts of EqualVectors and RatFromInt open. -/
import Derived.Test.YtojklmckjebplaaMatOf
import Derived.Test.YtojklmckjebplaaMatSeq
import Derived.Test.YtojklmckjebplaaVecUnit
namespace Go.Proofs.Ytojklmckjebplaa
open Go.RowKit Go.WideShapes Go.ChangeShapes
set_option linter.unusedVariables false
set_option linter.unusedSimpArgs false
theorem impl_eqM (q : List Fr → List Fr → Bool)
    (HQ : ∀ v0 L0 v1 L1 w, RatsAt w v0 L0 → RatsAt w v1 L1 → Calls Try.prog 17 #[v0, v1] w fun e w' => e = .returned (.bool (q L0 L1)) ∧ Below w.heap.size w w')
    (r0 c0 : Int) (v0 : Value) (L0 : List Fr) (r1 c1 : Int) (v1 : Value) (L1 : List Fr) (w : World) (h0 : RatsAt w v0 L0) (h1 : RatsAt w v1 L1) :
    Calls Try.prog 18 #[.agg #[.int .i64 r0, .int .i64 c0, v0], .agg #[.int .i64 r1, .int .i64 c1, v1]] w fun e w' => e = .returned (.bool (eqM q r0 c0 L0 r1 c1 L1)) ∧ Below w.heap.size w w' := by
  have T := Lib.hid (fun W (hW : Below w.heap.size w W) => HQ v0 L0 v1 L1 W (h0.below hW) (h1.below hW))
  obtain ⟨a, k, rfl, _, _⟩ := ratsAt_form h0
  obtain ⟨a', k', rfl, _, _⟩ := ratsAt_form h1
  obtain ⟨n, hn⟩ : ∃ n, L0.length = n := ⟨_, rfl⟩
  obtain ⟨n', hn'⟩ : ∃ n, L1.length = n := ⟨_, rfl⟩
  rw [hn] at T ⊢
  rw [hn'] at T ⊢
  clear hn hn' h0 h1
  obtain ⟨x, hx⟩ : ∃ x, x = eqM q r0 c0 L0 r1 c1 L1 := ⟨_, rfl⟩
  rw [← hx]
  have HX := Lib.hid hx
  clear hx
  have bA := ((Below.refl w.heap.size w).alloc (Nat.le_refl _) (.cells #[.int .i64 r0, .int .i64 c0, .slice a n k] 25)).alloc (by simp) (.cells #[.int .i64 r1, .int .i64 c1, .slice a' n' k'] 25)
  have BA := Lib.hid bA
  clear bA
  cases h1 : (r0 == r1) with
  | false =>
    obtain rfl : x = false := HX.out.trans (by unfold eqM; rw [h1]; rfl)
    go_enter Try.func18, Try.ntmps18
    go_wp2
    go_ret
    exact ⟨rfl, BA.out⟩
  | true =>
    obtain rfl := eq_of_beq h1
    clear h1
    cases h2 : (c0 == c1) with
    | false =>
      obtain rfl : x = false := HX.out.trans (by unfold eqM; rw [h2]; simp)
      go_enter Try.func18, Try.ntmps18
      go_wp2
      go_ret
      exact ⟨rfl, BA.out⟩
    | true =>
      obtain rfl := eq_of_beq h2
      clear h2
      obtain rfl : x = q L0 L1 := HX.out.trans (by unfold eqM; simp)
      go_enter Try.func18, Try.ntmps18
      go_wp2_with fail
      refine (T.out _ BA.out).mono ?_
      rintro e w1 ⟨rfl, b1⟩
      have B1 := Lib.hid (BA.out.trans (b1.mono BA.out.size))
      clear b1
      go_wp2
      go_ret
      exact ⟨rfl, B1.out⟩

set_option maxRecDepth 100000 in
set_option maxHeartbeats 2000000 in
theorem impl_matrixOf (ri : Int → Fr)
    (HRI : ∀ (i : Int) w, (-9223372036854775808 ≤ i ∧ i ≤ 9223372036854775807) → Calls Try.prog 64 #[.int .i64 i] w fun e w' => ∃ x y, e = .returned (.agg #[.bool (ri i).neg, x, y]) ∧ OwnR w' w.heap.size x (ri i).mag y (ri i).den ∧ Below w.heap.size w w')
    (r c : Int) (v : Value) (l : List Int) (w : World) (h : RowOf iV w v l) (hr : -9223372036854775808 ≤ r ∧ r ≤ 9223372036854775807) (hc : -9223372036854775808 ≤ c ∧ c ≤ 9223372036854775807) (hl : ∀ k (hk : k < l.length), -9223372036854775808 ≤ l[k]'hk ∧ l[k]'hk ≤ 9223372036854775807) :
    Calls Try.prog 29 #[.int .i64 r, .int .i64 c, v] w fun e w' => ∃ u xs, e = .returned (.agg #[.int .i64 (moR r c l), .int .i64 (moC r c l), u]) ∧ OwnV w' w.heap.size u (moL ri r c l) xs ∧ Below w.heap.size w w' := by
  have HL := Lib.hid hl
  clear hl
  obtain ⟨a, cap, rfl, hcp, hm, hcell⟩ := h
  unfold maxLen at hm
  have RA := Lib.hid hcell
  clear hcell
  obtain ⟨n, hnn⟩ : ∃ n, l.length = n := ⟨_, rfl⟩
  rw [hnn] at hcp ⊢
  have HN := Lib.hid hnn
  clear hnn
  cases q0 : dimB r with
  | false =>
    have HF := (show moB r c l = false by unfold moB; rw [q0]; rfl)
    rw [(mo_no (ri := ri) HF).1, (mo_no (ri := ri) HF).2.1, (mo_no (ri := ri) HF).2.2]
    clear HF
    obtain ⟨W0, hW0⟩ : ∃ x, x = w.alloc (.cells #[.int .i64 0, .int .i64 0, .slice none 0 0] 25) := ⟨_, rfl⟩
    have Z := Lib.hid (show B3 W0 w.heap.size 25 (.int .i64 0) (.int .i64 0) (.slice none 0 0) by rw [hW0]; exact B3.new _ _ _ _ _)
    have B0 := Lib.hid (show Below w.heap.size w W0 by rw [hW0]; exact (Below.refl _ _).alloc (Nat.le_refl _) _)
    have HW := Lib.hid hW0.symm
    clear hW0
    go_enter Try.func29, Try.ntmps29
    go_wp2_with (rw [HW.out])
    refine (impl_isSize _ _).mono ?_
    rw [q0]
    rintro e w' ⟨rfl, h9⟩
    replace h9 := h9.symm
    subst h9
    have z0 := Z.out.c0
    have z1 := Z.out.c1
    have z2 := Z.out.c2
    have x0 := Z.out.f 0
    have x1 := Z.out.f 1
    have x2 := Z.out.f 2
    have V9 := Lib.hid (OwnV.set3_b3 (OwnV.nil _ w.heap.size) Z.out (by decide) (by decide) (.int .i64 0) (.int .i64 0) (.slice none 0 0))
    have B9 := Lib.hid (((B0.out.setCell (p := ⟨w.heap.size, 0, none⟩) (by simp) (.int .i64 0)).setCell (p := ⟨w.heap.size, 1, none⟩) (by simp) (.int .i64 0)).setCell (p := ⟨w.heap.size, 2, none⟩) (by simp) (.slice none 0 0))
    have D8 := Z.out.set3 (.int .i64 0) (.int .i64 0) (.slice none 0 0)
    have hc0 := D8.c0; have hc1 := D8.c1; have hc2 := D8.c2
    clear D8
    go_wp2_with fail
    exact bodyPost_ret (v := .agg #[(.int .i64 0), (.int .i64 0), (.slice none 0 0)]) (by simp [results, Try.results29, go_sem, hc0, hc1, hc2]) rfl ⟨_, _, rfl, V9.out, B9.out⟩
  | true =>
  cases q1 : dimB c with
  | false =>
    have HF := (show moB r c l = false by unfold moB; rw [q0, q1]; rfl)
    rw [(mo_no (ri := ri) HF).1, (mo_no (ri := ri) HF).2.1, (mo_no (ri := ri) HF).2.2]
    clear HF
    obtain ⟨W0, hW0⟩ : ∃ x, x = w.alloc (.cells #[.int .i64 0, .int .i64 0, .slice none 0 0] 25) := ⟨_, rfl⟩
    have Z := Lib.hid (show B3 W0 w.heap.size 25 (.int .i64 0) (.int .i64 0) (.slice none 0 0) by rw [hW0]; exact B3.new _ _ _ _ _)
    have B0 := Lib.hid (show Below w.heap.size w W0 by rw [hW0]; exact (Below.refl _ _).alloc (Nat.le_refl _) _)
    have HW := Lib.hid hW0.symm
    clear hW0
    go_enter Try.func29, Try.ntmps29
    go_wp2_with (rw [HW.out])
    refine (impl_isSize _ _).mono ?_
    rw [q0]
    rintro e w' ⟨rfl, h9⟩
    replace h9 := h9.symm
    subst h9
    go_wp2_with fail
    refine (impl_isSize _ _).mono ?_
    rw [q1]
    rintro e w' ⟨rfl, h9⟩
    replace h9 := h9.symm
    subst h9
    have z0 := Z.out.c0
    have z1 := Z.out.c1
    have z2 := Z.out.c2
    have x0 := Z.out.f 0
    have x1 := Z.out.f 1
    have x2 := Z.out.f 2
    have V9 := Lib.hid (OwnV.set3_b3 (OwnV.nil _ w.heap.size) Z.out (by decide) (by decide) (.int .i64 0) (.int .i64 0) (.slice none 0 0))
    have B9 := Lib.hid (((B0.out.setCell (p := ⟨w.heap.size, 0, none⟩) (by simp) (.int .i64 0)).setCell (p := ⟨w.heap.size, 1, none⟩) (by simp) (.int .i64 0)).setCell (p := ⟨w.heap.size, 2, none⟩) (by simp) (.slice none 0 0))
    have D8 := Z.out.set3 (.int .i64 0) (.int .i64 0) (.slice none 0 0)
    have hc0 := D8.c0; have hc1 := D8.c1; have hc2 := D8.c2
    clear D8
    go_wp2_with fail
    exact bodyPost_ret (v := .agg #[(.int .i64 0), (.int .i64 0), (.slice none 0 0)]) (by simp [results, Try.results29, go_sem, hc0, hc1, hc2]) rfl ⟨_, _, rfl, V9.out, B9.out⟩
  | true =>
  obtain ⟨hm0, hm1⟩ := dim_mul q0 q1
  by_cases q2 : (n : Int) = r * c
  rotate_left
  · have hne : ((n : Int) != r * c) = true := by rw [bne_iff_ne]; exact q2
    have HF := (show moB r c l = false by unfold moB; rw [q0, q1, decide_eq_false (by rw [HN.out]; exact q2)]; rfl)
    rw [(mo_no (ri := ri) HF).1, (mo_no (ri := ri) HF).2.1, (mo_no (ri := ri) HF).2.2]
    clear HF
    obtain ⟨W0, hW0⟩ : ∃ x, x = w.alloc (.cells #[.int .i64 0, .int .i64 0, .slice none 0 0] 25) := ⟨_, rfl⟩
    have Z := Lib.hid (show B3 W0 w.heap.size 25 (.int .i64 0) (.int .i64 0) (.slice none 0 0) by rw [hW0]; exact B3.new _ _ _ _ _)
    have B0 := Lib.hid (show Below w.heap.size w W0 by rw [hW0]; exact (Below.refl _ _).alloc (Nat.le_refl _) _)
    have HW := Lib.hid hW0.symm
    clear hW0
    go_enter Try.func29, Try.ntmps29
    go_wp2_with (rw [HW.out])
    refine (impl_isSize _ _).mono ?_
    rw [q0]
    rintro e w' ⟨rfl, h9⟩
    replace h9 := h9.symm
    subst h9
    go_wp2_with fail
    refine (impl_isSize _ _).mono ?_
    rw [q1]
    rintro e w' ⟨rfl, h9⟩
    replace h9 := h9.symm
    subst h9
    have z0 := Z.out.c0
    have z1 := Z.out.c1
    have z2 := Z.out.c2
    have x0 := Z.out.f 0
    have x1 := Z.out.f 1
    have x2 := Z.out.f 2
    have V9 := Lib.hid (OwnV.set3_b3 (OwnV.nil _ w.heap.size) Z.out (by decide) (by decide) (.int .i64 0) (.int .i64 0) (.slice none 0 0))
    have B9 := Lib.hid (((B0.out.setCell (p := ⟨w.heap.size, 0, none⟩) (by simp) (.int .i64 0)).setCell (p := ⟨w.heap.size, 1, none⟩) (by simp) (.int .i64 0)).setCell (p := ⟨w.heap.size, 2, none⟩) (by simp) (.slice none 0 0))
    have D8 := Z.out.set3 (.int .i64 0) (.int .i64 0) (.slice none 0 0)
    have hc0 := D8.c0; have hc1 := D8.c1; have hc2 := D8.c2
    clear D8
    go_wp2_with fail
    exact bodyPost_ret (v := .agg #[(.int .i64 0), (.int .i64 0), (.slice none 0 0)]) (by simp [results, Try.results29, go_sem, hc0, hc1, hc2]) rfl ⟨_, _, rfl, V9.out, B9.out⟩
  have hne2 : ((n : Int) != r * c) = false := by unfold bne; rw [beq_iff_eq.2 q2]; rfl
  have HF := (show moB r c l = true by unfold moB; rw [q0, q1, decide_eq_true (by rw [HN.out]; exact q2)]; rfl)
  rw [(mo_yes (ri := ri) HF).1, (mo_yes (ri := ri) HF).2.1, (mo_yes (ri := ri) HF).2.2]
  clear HF
  have hn : n ≤ 576 := by omega
  obtain ⟨ZL, hZL⟩ : ∃ x, x = l.map ri := ⟨_, rfl⟩
  rw [← hZL]
  have HZ := Lib.hid hZL
  clear hZL
  obtain ⟨W0, hW0⟩ : ∃ x, x = w.alloc (.cells #[.int .i64 0, .int .i64 0, .slice none 0 0] 25) := ⟨_, rfl⟩
  have Z := Lib.hid (show B3 W0 w.heap.size 25 (.int .i64 0) (.int .i64 0) (.slice none 0 0) by rw [hW0]; exact B3.new _ _ _ _ _)
  have B0 := Lib.hid (show Below w.heap.size w W0 by rw [hW0]; exact (Below.refl _ _).alloc (Nat.le_refl _) _)
  have HW := Lib.hid hW0.symm
  clear hW0
  go_enter Try.func29, Try.ntmps29
  go_wp2_with (rw [HW.out])
  refine (impl_isSize _ _).mono ?_
  rw [q0]
  rintro e w' ⟨rfl, h9⟩
  replace h9 := h9.symm
  subst h9
  go_wp2_with fail
  refine (impl_isSize _ _).mono ?_
  rw [q1]
  rintro e w' ⟨rfl, h9⟩
  replace h9 := h9.symm
  subst h9
  clear q0 q1 q2
  have HM := make_rats n (by omega) W0
  obtain ⟨g, hg⟩ : ∃ x, x = W0.heap.size := ⟨_, rfl⟩
  obtain ⟨W3, hW3⟩ : ∃ x, x = W0.alloc (zeroV n) := ⟨_, rfl⟩
  have Y0 := Lib.hid (show B3 W3 w.heap.size 25 (.int .i64 0) (.int .i64 0) (.slice none 0 0) by rw [hW3]; exact Z.out.alloc _)
  have HO := Lib.hid (show OwnV W3 g (.slice (some ⟨g, 0, none⟩) n n) ((l.take 0).map ri ++ List.replicate (n - 0) Fr.zero) _ by rw [hW3, hg]; exact zeroV_own W0 W0.heap.size n (Nat.le_refl _) (by omega))
  have B3_ := Lib.hid (show Below w.heap.size w W3 by rw [hW3]; exact B0.out.alloc B0.out.size _)
  have HG := Lib.hid (show w.heap.size < g by rw [hg]; exact Z.out.lt)
  rw [← hW3, ← hg] at HM
  clear hW3 hg Z B0
  go_wp2_with fail
  clear HM hm0 hm1 hne2
  go_loopw [32] (fun iv wr => ∃ (k : Nat) (xs : List (Value × Value)), k ≤ n ∧ iv = .int .i64 k ∧ Hid (B3 wr w.heap.size 25 (.int .i64 0) (.int .i64 0) (.slice none 0 0)) ∧ Hid (OwnV wr g (.slice (some ⟨g, 0, none⟩) n n) ((l.take k).map ri ++ List.replicate (n - k) Fr.zero) xs) ∧ Hid (Below w.heap.size w wr)) (fun iv _ => n - (intOf iv).toNat)
  case atStart => exact ⟨0, _, Nat.zero_le _, rfl, Y0, HO, B3_⟩
  case round =>
    clear Y0 HO B3_
    obtain ⟨k, xs, hk, rfl, Y, HK, HBk⟩ := hrel
    by_cases hlt : k < n
    · have hlt0 : k < l.length := by rw [HN.out]; exact hlt
      obtain ⟨b, o, rfl, c0⟩ := RA.out k hlt0
      have d0 := (HBk.out.cell (World.block_lt_of_cell? w _ c0)).trans c0
      clear c0 RA
      have HQ := Lib.hid (HL.out k hlt0)
      have HP := Lib.hid (map_take_succ ri l k hlt0)
      have HPL := Lib.hid (show ((l.take k).map ri).length = k by rw [List.length_map, List.length_take]; omega)
      obtain ⟨z, hz⟩ : ∃ z, z = l[k]'hlt0 := ⟨_, rfl⟩
      obtain ⟨P, hP⟩ : ∃ P, P = (l.take k).map ri := ⟨_, rfl⟩
      rw [← hz] at HQ HP d0
      rw [← hP] at HP HPL HK
      have HR := Lib.hid (HRI z wr HQ.out)
      obtain ⟨f, hf⟩ : ∃ f, f = ri z := ⟨_, rfl⟩
      rw [← hf] at HP HR
      clear hz hP hlt0 hf
      unfold iV at d0
      have L9 := Lib.hid HK.out.lt
      have hg9 := (L9.out g (.inl rfl)).2
      have hxl : xs.length = n := by have := HK.out.len; rw [List.length_append, List.length_replicate, HPL.out] at this; omega
      go_wp2_with fail
      refine HR.out.mono ?_
      rintro e w_r ⟨x_r, y_r, rfl, o_r, bb_r⟩
      obtain ⟨a_r, c_r, e_r, f_r, rfl, rfl⟩ := o_r.slices
      have lr := o_r.lt
      have OK := HK.out.below bb_r
      obtain ⟨s0, s1, s2⟩ := OK.cells k (by rw [List.length_append, List.length_replicate, HPL.out]; omega) (by omega)
      have t0 := OK.frozen (k * 3)
      have t1 := OK.frozen (k * 3 + 1)
      have t2 := OK.frozen (k * 3 + 2)
      have O3 := OK.set3 k f _ _ (by rw [List.length_append, List.length_replicate, HPL.out]; omega) (OwnR.base o_r (by omega)) (fun j hj _ a a' h1 h2 => by have h3 := (L9.out a (.inr ⟨_, List.getElem_mem hj, h1⟩)).2; have h4 := (lr a' h2).1; omega) (fun a h2 => by have h4 := (lr a h2).1; omega)
      rw [grow_set HPL.out hlt, ← HP.out] at O3
      have gl := Nat.le_of_lt HG.out
      have B3 := (((HBk.out.trans (bb_r.mono HBk.out.size)).setCell (p := ⟨g, k * 3, none⟩) gl (.bool f.neg)).setCell (p := ⟨g, k * 3 + 1, none⟩) gl (.slice a_r f.mag.length c_r)).setCell (p := ⟨g, k * 3 + 2, none⟩) gl (.slice e_r f.den.length f_r)
      have Y4 := Lib.hid ((((Y.out.below bb_r).far (q := g) (j := k * 3) (by have := HG.out; omega) (.bool f.neg)).far (q := g) (j := k * 3 + 1) (by have := HG.out; omega) (.slice a_r f.mag.length c_r)).far (q := g) (j := k * 3 + 2) (by have := HG.out; omega) (.slice e_r f.den.length f_r))
      have O4 := Lib.hid O3
      have B4 := Lib.hid B3
      clear O3 B3 OK o_r d0 gl
      go_wp2_with fail
      exact ⟨⟨k + 1, _, by omega, by go_num, Y4, O4, B4⟩, by simp [intOf]; omega⟩
    · obtain rfl : k = n := by omega
      have hT0 : l.take k = l := by rw [← HN.out, List.take_length]
      rw [hT0, ← HZ.out, Nat.sub_self, List.replicate_zero, List.append_nil] at HK
      clear hT0
      have V8 := Lib.hid (HK.out.base (Nat.le_of_lt HG.out))
      have Z := Y
      have B0 := HBk
      clear Y HBk HK
      have z0 := Z.out.c0
      have z1 := Z.out.c1
      have z2 := Z.out.c2
      have x0 := Z.out.f 0
      have x1 := Z.out.f 1
      have x2 := Z.out.f 2
      have V9 := Lib.hid (OwnV.set3_b3 V8.out Z.out (by decide) (by decide) (.int .i64 r) (.int .i64 c) (.slice (some ⟨g, 0, none⟩) k k))
      have B9 := Lib.hid (((B0.out.setCell (p := ⟨w.heap.size, 0, none⟩) (by simp) (.int .i64 r)).setCell (p := ⟨w.heap.size, 1, none⟩) (by simp) (.int .i64 c)).setCell (p := ⟨w.heap.size, 2, none⟩) (by simp) (.slice (some ⟨g, 0, none⟩) k k))
      have D8 := Z.out.set3 (.int .i64 r) (.int .i64 c) (.slice (some ⟨g, 0, none⟩) k k)
      have hc0 := D8.c0; have hc1 := D8.c1; have hc2 := D8.c2
      clear D8
      go_wp2_with fail
      exact bodyPost_ret (v := .agg #[(.int .i64 r), (.int .i64 c), (.slice (some ⟨g, 0, none⟩) k k)]) (by simp [results, Try.results29, go_sem, hc0, hc1, hc2]) rfl ⟨_, _, rfl, V9.out, B9.out⟩

end Go.Proofs.Ytojklmckjebplaa
