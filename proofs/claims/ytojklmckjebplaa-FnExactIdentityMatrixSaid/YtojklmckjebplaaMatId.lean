/- l06Zero, l06Identity and IdentityMatrix of the model; the contracts of l05Zero and RatFromInt open. -/
import Derived.Test.YtojklmckjebplaaMatTr
import Derived.Test.YtojklmckjebplaaVecZero
namespace Go.Proofs.Ytojklmckjebplaa
open Go.RowKit Go.WideShapes Go.ChangeShapes
set_option linter.unusedVariables false
set_option linter.unusedSimpArgs false
def idL (o : Fr) (n : Nat) : Nat → List Fr
  | 0 => List.replicate (n * n) zF
  | i + 1 => (idL o n i).set (i * n + i) o
theorem idL_len (o : Fr) (n i : Nat) : (idL o n i).length = n * n := by
  induction i with
  | zero => simp [idL]
  | succ i ih => unfold idL; rw [List.length_set, ih]
theorem own_at {w : World} {B : Nat} {v : Value} {L : List Fr} {xs : List (Value × Value)} (h : OwnV w B v L xs) (h0 : 0 < L.length) : ∃ g c, v = .slice (some ⟨g, 0, none⟩) L.length c ∧ B ≤ g ∧ g < w.heap.size := by
  rcases h.row.2 with ⟨hv, hn⟩ | ⟨g, cap, cur, hv, hr⟩
  · omega
  · exact ⟨g, cap, hv, h.lt g (.inl (by rw [hv]; rfl))⟩

set_option maxRecDepth 100000 in
set_option maxHeartbeats 1000000 in
theorem spec_matZero (HZ : ∀ w, Calls Try.prog 146 #[] w fun r w' => ∃ x y, r = .returned (.agg #[.bool zF.neg, x, y]) ∧ OwnR w' w.heap.size x zF.mag y zF.den ∧ Below w.heap.size w w')
    (R C : Nat) (w : World) (hR : R ≤ 24) (hC : C ≤ 24) :
    Calls Try.prog 97 #[.int .i64 (R : Int), .int .i64 (C : Int)] w fun e w' => ∃ u xs, e = .returned (.agg #[.int .i64 (R : Int), .int .i64 (C : Int), u]) ∧ OwnV w' w.heap.size u (List.replicate (R * C) zF) xs ∧ Below w.heap.size w w' := by
  have hm := Nat.mul_le_mul hR hC
  obtain ⟨m, hmm⟩ : ∃ m, m = R * C := ⟨_, rfl⟩
  rw [← hmm] at hm ⊢
  have p1 : (R : Int) * (C : Int) = (m : Int) := by rw [hmm, Int.natCast_mul]
  clear hmm
  have T := fun W => spec_zeros HZ m (by omega) W
  go_enter Try.func97, Try.ntmps97
  go_wp2_with fail
  obtain ⟨W0, hW0⟩ : ∃ x, x = w.alloc (.cells #[.int .i64 0, .int .i64 0, .slice none 0 0] 25) := ⟨_, rfl⟩
  have Z := Lib.hid (show B3 W0 w.heap.size 25 (.int .i64 0) (.int .i64 0) (.slice none 0 0) by rw [hW0]; exact B3.new _ _ _ _ _)
  have B0 := Lib.hid (show Below w.heap.size w W0 by rw [hW0]; exact (Below.refl _ _).alloc (Nat.le_refl _) _)
  rw [← hW0]
  clear hW0
  refine (T _).mono ?_
  rintro e w1 ⟨u, xs, rfl, o1, b1⟩
  obtain ⟨a1, c1, rfl⟩ := o1.slice
  rw [List.length_replicate] at o1 ⊢
  replace Z := Lib.hid (Z.out.below b1)
  have O1 := Lib.hid (o1.base B0.out.size)
  replace B0 := Lib.hid (B0.out.trans (b1.mono B0.out.size))
  clear b1 T o1
  have z0 := Z.out.c0
  have z1 := Z.out.c1
  have z2 := Z.out.c2
  have x0 := Z.out.f 0
  have x1 := Z.out.f 1
  have x2 := Z.out.f 2
  have V9 := Lib.hid (OwnV.set3_b3 O1.out Z.out (by decide) (by decide) (.int .i64 (R : Int)) (.int .i64 (C : Int)) (.slice a1 m c1))
  have B9 := Lib.hid (((B0.out.setCell (p := ⟨w.heap.size, 0, none⟩) (by simp) (.int .i64 (R : Int))).setCell (p := ⟨w.heap.size, 1, none⟩) (by simp) (.int .i64 (C : Int))).setCell (p := ⟨w.heap.size, 2, none⟩) (by simp) (.slice a1 m c1))
  have D8 := Z.out.set3 (.int .i64 (R : Int)) (.int .i64 (C : Int)) (.slice a1 m c1)
  have hc0 := D8.c0; have hc1 := D8.c1; have hc2 := D8.c2
  clear D8
  go_wp2_with fail
  exact bodyPost_ret (v := .agg #[(.int .i64 (R : Int)), (.int .i64 (C : Int)), (.slice a1 m c1)]) (by simp [results, Try.results97, go_sem, hc0, hc1, hc2]) rfl ⟨_, _, rfl, V9.out, B9.out⟩

set_option maxRecDepth 100000 in
set_option maxHeartbeats 2000000 in
theorem spec_identity (HZ : ∀ w, Calls Try.prog 146 #[] w fun r w' => ∃ x y, r = .returned (.agg #[.bool zF.neg, x, y]) ∧ OwnR w' w.heap.size x zF.mag y zF.den ∧ Below w.heap.size w w')
    (o : Fr) (HONE : ∀ w, Calls Try.prog 63 #[.int .i64 1] w fun e w' => ∃ x y, e = .returned (.agg #[.bool o.neg, x, y]) ∧ OwnR w' w.heap.size x o.mag y o.den ∧ Below w.heap.size w w')
    (n : Nat) (w : World) (hn : n ≤ 24) :
    Calls Try.prog 65 #[.int .i64 (n : Int)] w fun e w' => ∃ u xs, e = .returned (.agg #[.int .i64 (n : Int), .int .i64 (n : Int), u]) ∧ OwnV w' w.heap.size u (idL o n n) xs ∧ Below w.heap.size w w' := by
  have T := Lib.hid (fun W => spec_matZero HZ n n W hn hn)
  have hm := Nat.mul_le_mul hn hn
  obtain ⟨m, hmm⟩ : ∃ m, m = n * n := ⟨_, rfl⟩
  rw [← hmm] at hm T
  have HM := Lib.hid hmm
  clear hmm
  go_enter Try.func65, Try.ntmps65
  go_wp2_with fail
  obtain ⟨W0, hW0⟩ : ∃ x, x = w.alloc (.cells #[.int .i64 0, .int .i64 0, .slice none 0 0] 25) := ⟨_, rfl⟩
  have Z := Lib.hid (show B3 W0 w.heap.size 25 (.int .i64 0) (.int .i64 0) (.slice none 0 0) by rw [hW0]; exact B3.new _ _ _ _ _)
  have B0 := Lib.hid (show Below w.heap.size w W0 by rw [hW0]; exact (Below.refl _ _).alloc (Nat.le_refl _) _)
  rw [← hW0]
  clear hW0
  refine (T.out _).mono ?_
  rintro e w1 ⟨v, xs, rfl, o1, b1⟩
  replace Z := Lib.hid (Z.out.below b1)
  have O1 := Lib.hid (o1.base B0.out.size)
  replace B0 := Lib.hid (B0.out.trans (b1.mono B0.out.size))
  obtain ⟨a1, c1, rfl⟩ := o1.slice
  rw [List.length_replicate] at O1 ⊢
  clear b1 T o1
  go_wp2_with fail
  obtain ⟨pO, hpO⟩ : ∃ x, x = w1.heap.size := ⟨_, rfl⟩
  obtain ⟨W3, hW3⟩ : ∃ x, x = w1.alloc (.cells #[.int .i64 (n : Int), .int .i64 (n : Int), .slice a1 m c1] 25) := ⟨_, rfl⟩
  have Y0 := Lib.hid (show B3 W3 w.heap.size 25 (.int .i64 0) (.int .i64 0) (.slice none 0 0) by rw [hW3]; exact Z.out.alloc _)
  have O0 := Lib.hid (show B3 W3 pO 25 (.int .i64 (n : Int)) (.int .i64 (n : Int)) (.slice a1 m c1) by rw [hW3, hpO]; exact B3.new _ _ _ _ _)
  have V0 := Lib.hid (show OwnV W3 w.heap.size (.slice a1 m c1) (idL o n 0) xs by rw [hW3, show idL o n 0 = List.replicate m zF by rw [HM.out]; rfl]; exact O1.out.alloc _)
  have B3_ := Lib.hid (show Below w.heap.size w W3 by rw [hW3]; exact B0.out.alloc B0.out.size _)
  have PO := Lib.hid (show w.heap.size < pO by rw [hpO]; exact Z.out.lt)
  rw [← hW3, ← hpO]
  clear hW3 hpO Z B0 O1
  go_loopw [4] (fun iv wr => ∃ (i : Nat) (xs : List (Value × Value)), i ≤ n ∧ iv = .int .i64 i ∧ Hid (B3 wr w.heap.size 25 (.int .i64 0) (.int .i64 0) (.slice none 0 0)) ∧ Hid (B3 wr pO 25 (.int .i64 (n : Int)) (.int .i64 (n : Int)) (.slice a1 m c1)) ∧ Hid (OwnV wr w.heap.size (.slice a1 m c1) (idL o n i) xs) ∧ Hid (Below w.heap.size w wr)) (fun iv _ => n - (intOf iv).toNat)
  case atStart => exact ⟨0, xs, Nat.zero_le _, rfl, Y0, O0, V0, B3_⟩
  case round =>
    clear Y0 O0 V0 B3_
    obtain ⟨i, xs, hi, rfl, Y, O, V, B⟩ := hrel
    by_cases hlt : i < n
    · have hin : i * n + i < m := by have := row_in (C := n) hlt; rw [HM.out]; omega
      obtain ⟨g, c, hv, hg1, hg2⟩ := own_at V.out (by rw [idL_len, ← HM.out]; omega)
      injection hv with e1 e2 e3
      subst e1
      clear e2 e3
      have HL := Lib.hid (show (idL o n i).length = m by rw [idL_len, ← HM.out])
      have HS := Lib.hid (show idL o n (i + 1) = (idL o n i).set (i * n + i) o from rfl)
      obtain ⟨l, hl⟩ : ∃ l, l = i * n := ⟨_, rfl⟩
      have p1 : (i : Int) * (n : Int) = (l : Int) := by rw [hl, Int.natCast_mul]
      rw [← hl] at hin HS
      clear hl
      obtain ⟨j, hj⟩ : ∃ j, j = l + i := ⟨_, rfl⟩
      have p2 : (l : Int) + (i : Int) = (j : Int) := by omega
      rw [← hj] at hin HS
      clear hj
      have p3 : (0 : Int) ≤ (j : Int) := by omega
      have p4 : (j : Int) < (m : Int) := by omega
      have p5 : IntKind.i64.wrap (l : Int) = (l : Int) := IntWalk.i64_in _ (by omega)
      have p6 : IntKind.i64.wrap (j : Int) = (j : Int) := IntWalk.i64_in _ (by omega)
      have y2 := O.out.c2
      have HX := Lib.hid (show xs.length = m by have := V.out.len; have := HL.out; omega)
      have HOO := Lib.hid (fun W (hW : Below wr.heap.size wr W) => O.out.below hW)
      have BS := Lib.hid B.out.size
      have G1 := Lib.hid hg1
      have GO := Lib.hid (show g ≠ pO from fun e => V.out.not_b3 O.out (by decide) (by decide) (.inl (by rw [← e]; rfl)))
      have GY := Lib.hid (show g ≠ w.heap.size from fun e => V.out.not_b3 Y.out (by decide) (by decide) (.inl (by rw [← e]; rfl)))
      clear hg1 hg2
      have L9 := Lib.hid V.out.lt
      have HAT := Lib.hid (fun W (hW : Below wr.heap.size wr W) => (HONE W).mono (R' := fun e w' => ∃ x y, e = .returned (.agg #[.bool o.neg, x, y]) ∧ OwnR w' wr.heap.size x o.mag y o.den ∧ Below wr.heap.size wr w') (fun e w' ⟨x, y, he, hr, hb⟩ => ⟨x, y, he, hr.base hW.size, hW.trans (hb.mono hW.size)⟩))
      go_wp2_with fail
      go_region_law (first
        | (go_simp; go_at_call 63; refine (HAT.out _ (by first | with_reducible exact Below.refl _ _ | with_reducible exact (Below.refl _ _).drew | fail)).mono ?_; rintro e w_c ⟨x_c, y_c, rfl, o_c, bb_c⟩; obtain ⟨a_c, c_c, e_c, f_c, rfl, rfl⟩ := o_c.slices; have OK := V.out.below bb_c; obtain ⟨k0, k1, k2⟩ := OK.cells j (by have := HL.out; omega) (by have := HX.out; omega); have r0 := OK.frozen (j * 3); have r1 := OK.frozen (j * 3 + 1); have r2 := OK.frozen (j * 3 + 2); have O_c := Lib.hid o_c; have Y9 := HOO.out _ bb_c; have s2 := Y9.c2)
        | fail)
      all_goals go_wp2_with fail
      all_goals exact ⟨⟨i + 1, _, by omega, by go_num, Lib.hid ((((Y.out.below bb_c).far (Ne.symm GY.out) _).far (Ne.symm GY.out) _).far (Ne.symm GY.out) _), Lib.hid (((Y9.far (Ne.symm GO.out) _).far (Ne.symm GO.out) _).far (Ne.symm GO.out) _), Lib.hid (by rw [HS.out]; exact OK.set3 j o _ _ (by have := HL.out; omega) (OwnR.base O_c.out BS.out) (fun q hq _ a a' h1 h2 => by have h3 := (L9.out a (.inr ⟨_, List.getElem_mem hq, h1⟩)).2; have h4 := (O_c.out.lt a' h2).1; omega) (fun a h2 => by have h3 := (L9.out g (.inl rfl)).2; have h4 := (O_c.out.lt a h2).1; omega)), Lib.hid ((((B.out.trans (bb_c.mono BS.out)).setCell (p := ⟨g, j * 3, none⟩) G1.out _).setCell (p := ⟨g, j * 3 + 1, none⟩) G1.out _).setCell (p := ⟨g, j * 3 + 2, none⟩) G1.out _)⟩, by simp [intOf]; omega⟩
    · obtain rfl : i = n := by omega
      have y0 := O.out.c0
      have y1 := O.out.c1
      have y2 := O.out.c2
      replace Z := Y
      replace B0 := B
      have z0 := Z.out.c0
      have z1 := Z.out.c1
      have z2 := Z.out.c2
      have x0 := Z.out.f 0
      have x1 := Z.out.f 1
      have x2 := Z.out.f 2
      have V9 := Lib.hid (OwnV.set3_b3 V.out Z.out (by decide) (by decide) (.int .i64 (i : Int)) (.int .i64 (i : Int)) (.slice a1 m c1))
      have B9 := Lib.hid (((B0.out.setCell (p := ⟨w.heap.size, 0, none⟩) (by simp) (.int .i64 (i : Int))).setCell (p := ⟨w.heap.size, 1, none⟩) (by simp) (.int .i64 (i : Int))).setCell (p := ⟨w.heap.size, 2, none⟩) (by simp) (.slice a1 m c1))
      have D8 := Z.out.set3 (.int .i64 (i : Int)) (.int .i64 (i : Int)) (.slice a1 m c1)
      have hc0 := D8.c0; have hc1 := D8.c1; have hc2 := D8.c2
      clear D8
      go_wp2_with fail
      exact bodyPost_ret (v := .agg #[(.int .i64 (i : Int)), (.int .i64 (i : Int)), (.slice a1 m c1)]) (by simp [results, Try.results65, go_sem, hc0, hc1, hc2]) rfl ⟨_, _, rfl, V9.out, B9.out⟩

def idM (o : Fr) (n : Int) : List Fr := if dimB n then idL o n.toNat n.toNat else []
def idN (n : Int) : Int := if dimB n then n else 0
set_option maxRecDepth 100000 in
set_option maxHeartbeats 2000000 in
theorem spec_identityMatrix (HZ : ∀ w, Calls Try.prog 146 #[] w fun r w' => ∃ x y, r = .returned (.agg #[.bool zF.neg, x, y]) ∧ OwnR w' w.heap.size x zF.mag y zF.den ∧ Below w.heap.size w w')
    (o : Fr) (HONE : ∀ w, Calls Try.prog 63 #[.int .i64 1] w fun e w' => ∃ x y, e = .returned (.agg #[.bool o.neg, x, y]) ∧ OwnR w' w.heap.size x o.mag y o.den ∧ Below w.heap.size w w')
    (n : Int) (w : World) (hn : -9223372036854775808 ≤ n ∧ n ≤ 9223372036854775807) :
    Calls Try.prog 34 #[.int .i64 n] w fun e w' => ∃ u xs, e = .returned (.agg #[.int .i64 (idN n), .int .i64 (idN n), u]) ∧ OwnV w' w.heap.size u (idM o n) xs ∧ Below w.heap.size w w' := by
  cases q0 : dimB n with
  | false =>
    have p0 : (decide (0 ≤ n) && decide (n ≤ 24)) = false := q0
    have e0 : idM o n = [] ∧ idN n = 0 := by unfold idM idN; rw [q0]; exact ⟨rfl, rfl⟩
    rw [e0.1, e0.2]
    clear e0
    go_enter Try.func34, Try.ntmps34
    go_wp2_with fail
    obtain ⟨W0, hW0⟩ : ∃ x, x = w.alloc (.cells #[.int .i64 0, .int .i64 0, .slice none 0 0] 25) := ⟨_, rfl⟩
    have Z := Lib.hid (show B3 W0 w.heap.size 25 (.int .i64 0) (.int .i64 0) (.slice none 0 0) by rw [hW0]; exact B3.new _ _ _ _ _)
    have B0 := Lib.hid (show Below w.heap.size w W0 by rw [hW0]; exact (Below.refl _ _).alloc (Nat.le_refl _) _)
    rw [← hW0]
    clear hW0
    refine (spec_in _ _ _ _).mono ?_
    rw [p0]
    rintro e w' ⟨rfl, h9⟩
    replace h9 := h9.symm
    subst h9
    have z0 := Z.out.c0
    have z1 := Z.out.c1
    have z2 := Z.out.c2
    have x0 := Z.out.f 0
    have x1 := Z.out.f 1
    have x2 := Z.out.f 2
    have V9 := Lib.hid (OwnV.set3_b3 (OwnV.nil _ w.heap.size) Z.out (by decide) (by decide) (.int .i64 0) (.int .i64 0) (.slice none 0 0))
    have B9 := Lib.hid (((B0.out.setCell (p := ⟨w.heap.size, 0, none⟩) (by simp) (.int .i64 0)).setCell (p := ⟨w.heap.size, 1, none⟩) (by simp) (.int .i64 0)).setCell (p := ⟨w.heap.size, 2, none⟩) (by simp) (.slice none 0 0))
    have D8 := Z.out.set3 (.int .i64 0) (.int .i64 0) (.slice none 0 0)
    have hc0 := D8.c0; have hc1 := D8.c1; have hc2 := D8.c2
    clear D8
    go_wp2_with fail
    exact bodyPost_ret (v := .agg #[(.int .i64 0), (.int .i64 0), (.slice none 0 0)]) (by simp [results, Try.results34, go_sem, hc0, hc1, hc2]) rfl ⟨_, _, rfl, V9.out, B9.out⟩
  | true =>
  have p0 : (decide (0 ≤ n) && decide (n ≤ 24)) = true := q0
  obtain ⟨h1, h2⟩ := dimB_iff.1 q0
  obtain ⟨m, rfl⟩ : ∃ m : Nat, n = m := ⟨n.toNat, by omega⟩
  have e0 : idM o m = idL o m m ∧ idN m = m := by unfold idM idN; rw [q0]; exact ⟨rfl, rfl⟩
  rw [e0.1, e0.2]
  have T := Lib.hid (fun W => spec_identity HZ o HONE m W (by omega))
  obtain ⟨P, hP⟩ : ∃ P, P = idL o m m := ⟨_, rfl⟩
  rw [← hP] at T ⊢
  clear e0 q0 hP
  go_enter Try.func34, Try.ntmps34
  go_wp2_with fail
  obtain ⟨W0, hW0⟩ : ∃ x, x = w.alloc (.cells #[.int .i64 0, .int .i64 0, .slice none 0 0] 25) := ⟨_, rfl⟩
  have Z := Lib.hid (show B3 W0 w.heap.size 25 (.int .i64 0) (.int .i64 0) (.slice none 0 0) by rw [hW0]; exact B3.new _ _ _ _ _)
  have B0 := Lib.hid (show Below w.heap.size w W0 by rw [hW0]; exact (Below.refl _ _).alloc (Nat.le_refl _) _)
  rw [← hW0]
  clear hW0
  refine (spec_in _ _ _ _).mono ?_
  rw [p0]
  rintro e w' ⟨rfl, h9⟩
  replace h9 := h9.symm
  subst h9
  go_wp2_with fail
  refine (T.out _).mono ?_
  rintro e w3 ⟨u, xs, rfl, o3, b3⟩
  obtain ⟨a3, c3, rfl⟩ := o3.slice
  replace Z := Lib.hid (Z.out.below b3)
  have O3 := Lib.hid (o3.base B0.out.size)
  replace B0 := Lib.hid (B0.out.trans (b3.mono B0.out.size))
  clear b3 o3
  have z0 := Z.out.c0
  have z1 := Z.out.c1
  have z2 := Z.out.c2
  have x0 := Z.out.f 0
  have x1 := Z.out.f 1
  have x2 := Z.out.f 2
  have V9 := Lib.hid (OwnV.set3_b3 O3.out Z.out (by decide) (by decide) (.int .i64 (m : Int)) (.int .i64 (m : Int)) (.slice a3 P.length c3))
  have B9 := Lib.hid (((B0.out.setCell (p := ⟨w.heap.size, 0, none⟩) (by simp) (.int .i64 (m : Int))).setCell (p := ⟨w.heap.size, 1, none⟩) (by simp) (.int .i64 (m : Int))).setCell (p := ⟨w.heap.size, 2, none⟩) (by simp) (.slice a3 P.length c3))
  have D8 := Z.out.set3 (.int .i64 (m : Int)) (.int .i64 (m : Int)) (.slice a3 P.length c3)
  have hc0 := D8.c0; have hc1 := D8.c1; have hc2 := D8.c2
  clear D8
  go_wp2_with fail
  exact bodyPost_ret (v := .agg #[(.int .i64 (m : Int)), (.int .i64 (m : Int)), (.slice a3 P.length c3)]) (by simp [results, Try.results34, go_sem, hc0, hc1, hc2]) rfl ⟨_, _, rfl, V9.out, B9.out⟩

end Go.Proofs.Ytojklmckjebplaa
