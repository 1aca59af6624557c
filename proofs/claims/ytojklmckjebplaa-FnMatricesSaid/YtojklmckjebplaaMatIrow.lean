/- RowOf of the program; the contracts of IsVector and clone open. -/
import Derived.Test.YtojklmckjebplaaMatIget
import Derived.Test.YtojklmckjebplaaVecUnit
namespace Go.Proofs.Ytojklmckjebplaa
open Go.RowKit Go.WideShapes Go.ChangeShapes
set_option linter.unusedVariables false
set_option linter.unusedSimpArgs false
set_option maxRecDepth 100000 in
set_option maxHeartbeats 2000000 in
theorem impl_rowOf (ok : Bool → List Int → List Int → Bool)
    (HV : ∀ v L w, RatsAt w v L → Calls Try.prog 55 #[v] w fun e w' => e = .returned (.bool (vecB ok L)) ∧ Below w.heap.size w w')
    (HC : ∀ (f : Fr), ok f.neg f.mag f.den = true → ∀ v d w, RowR w v f.mag d f.den → Calls Try.prog 53 #[.agg #[.bool f.neg, v, d]] w fun r w' => ∃ x y, r = .returned (.agg #[.bool f.neg, x, y]) ∧ OwnR w' w.heap.size x f.mag y f.den ∧ Below w.heap.size w w')
    (r c i : Int) (v : Value) (L : List Fr) (w : World) (h : RatsAt w v L) :
    Calls Try.prog 20 #[.agg #[.int .i64 r, .int .i64 c, v], .int .i64 i] w fun e w' => ∃ u xs, e = .returned u ∧ OwnV w' w.heap.size u (rowL ok r c L i) xs ∧ Below w.heap.size w w' := by
  obtain ⟨a, cap, rfl, hc, hm, hr⟩ := h
  have HR := Lib.hid (show RatsAt w (.slice a L.length cap) L from ⟨a, cap, rfl, hc, hm, hr⟩)
  unfold maxLen at hm
  clear hr
  obtain ⟨n, hnn⟩ : ∃ n, L.length = n := ⟨_, rfl⟩
  rw [hnn] at hc HR ⊢
  have HN := Lib.hid hnn
  clear hnn
  obtain ⟨W0, hW0⟩ : ∃ x, x = w.alloc (.cells #[.int .i64 r, .int .i64 c, .slice a n cap] 25) := ⟨_, rfl⟩
  have D := Lib.hid (show B3 W0 w.heap.size 25 (.int .i64 r) (.int .i64 c) (.slice a n cap) by rw [hW0]; exact B3.new _ _ _ _ _)
  have B0 := Lib.hid (show Below w.heap.size w W0 by rw [hW0]; exact (Below.refl _ _).alloc (Nat.le_refl _) _)
  have HW := Lib.hid hW0.symm
  clear hW0
  obtain ⟨Q, hQ⟩ : ∃ x, x = rowL ok r c L i := ⟨_, rfl⟩
  rw [← hQ]
  have HQ := Lib.hid hQ
  clear hQ
  by_cases hi0 : i < 0
  · obtain rfl : Q = [] := HQ.out.trans (by unfold rowL rowOk inB; rw [decide_eq_false (show ¬ 0 ≤ i by omega)]; simp)
    have d0 := D.out.c0
    have d1 := D.out.c1
    have d2 := D.out.c2
    go_enter Try.func20, Try.ntmps20
    go_wp2_with (rw [HW.out])
    go_ret
    first | exact ⟨.slice none 0 0, rfl, ⟨[], OwnV.nil _ _⟩, B0.out⟩ | exact ⟨_, _, rfl, OwnV.nil _ _, B0.out⟩
  by_cases hi1 : r ≤ i
  · obtain rfl : Q = [] := HQ.out.trans (by unfold rowL rowOk inB; rw [decide_eq_false (show ¬ i ≤ r - 1 by omega)]; simp)
    have d0 := D.out.c0
    have d1 := D.out.c1
    have d2 := D.out.c2
    go_enter Try.func20, Try.ntmps20
    go_wp2_with (rw [HW.out])
    go_ret
    first | exact ⟨.slice none 0 0, rfl, ⟨[], OwnV.nil _ _⟩, B0.out⟩ | exact ⟨_, _, rfl, OwnV.nil _ _, B0.out⟩
  cases q0 : matB ok r c L with
  | false =>
    obtain rfl : Q = [] := HQ.out.trans (by unfold rowL rowOk; rw [q0]; rfl)
    have d0 := D.out.c0
    have d1 := D.out.c1
    have d2 := D.out.c2
    go_enter Try.func20, Try.ntmps20
    go_wp2_with (rw [HW.out])
    refine (impl_matrixOkH ok HV _ _ _ L W0 (HR.out.below B0.out)).mono ?_
    rw [q0]
    rintro e w1 ⟨rfl, b1⟩
    replace D := Lib.hid (D.out.below b1)
    replace B0 := Lib.hid (B0.out.trans (b1.mono B0.out.size))
    clear b1
    clear d0 d1 d2
    go_wp2
    go_ret
    first | exact ⟨.slice none 0 0, rfl, ⟨[], OwnV.nil _ _⟩, B0.out⟩ | exact ⟨_, _, rfl, OwnV.nil _ _, B0.out⟩
  | true =>
  obtain ⟨R, C, rfl, rfl, hR, hC, hLn, hRC, hE⟩ := matB_parts q0
  rw [HN.out] at hLn
  have HLN := Lib.hid hLn
  have hn9 : n ≤ 576 := by omega
  clear hLn hRC
  obtain ⟨I, rfl⟩ : ∃ a : Nat, i = a := ⟨i.toNat, by omega⟩
  have hIR : I < R := by omega
  have hin : I * C + C ≤ n := by rw [HLN.out]; exact row_in hIR
  obtain rfl : Q = rowX L C I := HQ.out.trans (by
    unfold rowL rowOk inB
    rw [q0, decide_eq_true (show (0 : Int) ≤ I by omega), decide_eq_true (show (I : Int) ≤ (R : Int) - 1 by omega)]
    simp only [Bool.and_true, ite_true]
    rw [← Int.natCast_mul, Int.toNat_natCast, Int.toNat_natCast]; rfl)
  have HROW := Lib.hid (fun W => impl_row (R : Int) C I n a cap W hin hn9 hC (by omega) hc (by omega))
  have hlen := rowX_len HN.out HLN.out hIR
  have HE := Lib.hid (show ∀ k (hk : k < (rowX L C I).length), ok ((rowX L C I)[k]'hk).neg ((rowX L C I)[k]'hk).mag ((rowX L C I)[k]'hk).den = true by
    intro k hk; rw [rowX_at HN.out HLN.out hIR (by omega) hk (by rw [HN.out]; omega)]; exact hE _ _)
  obtain ⟨a2, cap2, hv, g1, g2, hr⟩ := rats_row HR.out HN.out HLN.out hIR hC
  rw [hv] at HROW
  have RR := Lib.hid hr
  unfold maxLen at g2
  obtain ⟨Z, hZ⟩ : ∃ x, x = rowX L C I := ⟨_, rfl⟩
  rw [← hZ] at HROW RR HE g1 hlen ⊢
  rw [hlen] at HROW g1
  have HZ := Lib.hid hlen
  clear hr hE hin hv HQ hZ hlen
  have d0 := D.out.c0
  have d1 := D.out.c1
  have d2 := D.out.c2
  go_enter Try.func20, Try.ntmps20
  go_wp2_with (rw [HW.out])
  refine (impl_matrixOkH ok HV _ _ _ L W0 (HR.out.below B0.out)).mono ?_
  rw [q0]
  rintro e w1 ⟨rfl, b1⟩
  replace D := Lib.hid (D.out.below b1)
  replace B0 := Lib.hid (B0.out.trans (b1.mono B0.out.size))
  clear b1
  clear d0 d1 d2
  have d0 := D.out.c0
  have d1 := D.out.c1
  have d2 := D.out.c2
  have HM := make_rats C (by omega) w1
  obtain ⟨g, hg⟩ : ∃ x, x = w1.heap.size := ⟨_, rfl⟩
  obtain ⟨W2, hW2⟩ : ∃ x, x = w1.alloc (zeroV C) := ⟨_, rfl⟩
  have HO := Lib.hid (show OwnV W2 g (.slice (some ⟨g, 0, none⟩) C C) (Z.take 0 ++ List.replicate (C - 0) Fr.zero) _ by rw [hW2, hg]; exact zeroV_own w1 w1.heap.size C (Nat.le_refl _) (by omega))
  have HB := Lib.hid (show Below w.heap.size w W2 by rw [hW2]; exact B0.out.alloc B0.out.size _)
  have HG := Lib.hid (show w.heap.size ≤ g by rw [hg]; exact B0.out.size)
  have D2 := Lib.hid (show B3 W2 w.heap.size 25 (.int .i64 (R : Int)) (.int .i64 (C : Int)) (.slice a n cap) by rw [hW2]; exact D.out.alloc _)
  rw [← hW2, ← hg] at HM
  clear hW2 hg B0
  have f0 := D2.out.c0
  have f1 := D2.out.c1
  have f2 := D2.out.c2
  go_wp2_with fail
  clear HM D D2 d0 d1 d2 f0 f1 f2
  refine (HROW.out _).mono ?_
  rintro e w3 ⟨rfl, b3⟩
  replace HO := Lib.hid (HO.out.below b3)
  replace HB := Lib.hid (HB.out.trans (b3.mono HB.out.size))
  clear b3 HROW
  go_wp2_with fail
  go_loopw [28] (fun iv wr => ∃ (k : Nat), k ≤ C ∧ iv = .int .i64 k ∧ ∃ xs, Hid (OwnV wr g (.slice (some ⟨g, 0, none⟩) C C) (Z.take k ++ List.replicate (C - k) Fr.zero) xs) ∧ Hid (Below w.heap.size w wr)) (fun iv _ => C - (intOf iv).toNat)
  case atStart => exact ⟨0, Nat.zero_le _, rfl, _, HO, HB⟩
  case round =>
    clear HO HB
    obtain ⟨k, hk, rfl, xs, HK, HBk⟩ := hrel
    by_cases hlt : k < C
    · have hlt0 : k < Z.length := by rw [HZ.out]; exact hlt
      obtain ⟨b, o, x, y, rfl, k0, k1, k2, hrr⟩ := RR.out k hlt0
      have c0 := (HBk.out.cell (World.block_lt_of_cell? w _ k0)).trans k0
      have c1 := (HBk.out.cell (World.block_lt_of_cell? w _ k1)).trans k1
      have c2 := (HBk.out.cell (World.block_lt_of_cell? w _ k2)).trans k2
      have HF := Lib.hid (HE.out k hlt0)
      have HZS := Lib.hid (show Z.take (k + 1) = Z.take k ++ [Z[k]'hlt0] from List.take_succ_eq_append_getElem hlt0)
      have HZT := Lib.hid (show (Z.take k).length = k by rw [List.length_take]; omega)
      obtain ⟨f, hf⟩ : ∃ f, f = Z[k]'hlt0 := ⟨_, rfl⟩
      rw [← hf] at hrr c0 HF HZS
      obtain ⟨a1, r1, a2, r2, rfl, rfl, hz1, hz2⟩ := rowR_len hrr
      have HRR := Lib.hid (hrr.below HBk.out)
      have L9 := Lib.hid HK.out.lt
      have hg9 := (L9.out g (.inl rfl)).2
      have hxl : xs.length = C := by have := HK.out.len; rw [List.length_append, List.length_replicate, HZT.out] at this; omega
      clear k0 k1 k2 hf hrr RR
      go_wp2_with fail
      have bA := (Below.refl wr.heap.size wr).alloc (Nat.le_refl _) (.cells #[.bool f.neg, .slice a1 f.mag.length r1, .slice a2 f.den.length r2] 42)
      refine (HC f HF.out _ _ _ (HRR.out.below bA)).mono ?_
      rintro e w_r ⟨x_r, y_r, rfl, o_r, b_r⟩
      obtain ⟨a_r, c_r, e_r, f_r, rfl, rfl⟩ := o_r.slices
      have bb_r := bA.trans (b_r.mono (by simp))
      have bR := (((Below.refl wr.heap.size wr).alloc (Nat.le_refl _) (.cells #[.bool f.neg, .slice a1 f.mag.length r1, .slice a2 f.den.length r2] 42))).size
      have o_r := OwnR.base (B' := wr.heap.size) o_r bR
      have lr := o_r.lt
      have OK := HK.out.below bb_r
      obtain ⟨s0, s1, s2⟩ := OK.cells k (by rw [List.length_append, List.length_replicate, HZT.out]; omega) (by omega)
      have t0 := OK.frozen (k * 3)
      have t1 := OK.frozen (k * 3 + 1)
      have t2 := OK.frozen (k * 3 + 2)
      have O3 := OK.set3 k f _ _ (by rw [List.length_append, List.length_replicate, HZT.out]; omega) (OwnR.base o_r (by omega)) (fun j hj _ a a' h1 h2 => by have h3 := (L9.out a (.inr ⟨_, List.getElem_mem hj, h1⟩)).2; have h4 := (lr a' h2).1; omega) (fun a h2 => by have h4 := (lr a h2).1; omega)
      rw [grow_set HZT.out hlt, ← HZS.out] at O3
      have B3 := (((HBk.out.trans (bb_r.mono HBk.out.size)).setCell (p := ⟨g, k * 3, none⟩) HG.out (.bool f.neg)).setCell (p := ⟨g, k * 3 + 1, none⟩) HG.out (.slice a_r f.mag.length c_r)).setCell (p := ⟨g, k * 3 + 2, none⟩) HG.out (.slice e_r f.den.length f_r)
      have O4 := Lib.hid O3
      have B4 := Lib.hid B3
      clear O3 B3 OK o_r c0 c1 c2 bA bR
      go_wp2_with fail
      exact ⟨⟨k + 1, by omega, by go_num, _, O4, B4⟩, by simp [intOf]; omega⟩
    · obtain rfl : k = C := by omega
      rw [Nat.sub_self, List.replicate_zero, List.append_nil, ← HZ.out, List.take_length] at HK
      rw [HZ.out] at HK
      go_wp2
      go_ret
      first | exact ⟨_, rfl, ⟨xs, HK.out.base HG.out⟩, HBk.out⟩ | exact ⟨_, xs, rfl, HK.out.base HG.out, HBk.out⟩

end Go.Proofs.Ytojklmckjebplaa
