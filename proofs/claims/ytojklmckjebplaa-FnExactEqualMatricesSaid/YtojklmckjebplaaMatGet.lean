/- RowOf and CellAt of the model; RatOk's and l04Copy's contracts open. -/
import Derived.Test.YtojklmckjebplaaMatAt
namespace Go.Proofs.Ytojklmckjebplaa
open Go.RowKit Go.WideShapes Go.ChangeShapes
set_option linter.unusedVariables false
set_option linter.unusedSimpArgs false
def inB (n hi : Int) : Bool := decide (0 ≤ n) && decide (n ≤ hi)
theorem inB_iff {n hi : Int} : inB n hi = true ↔ 0 ≤ n ∧ n ≤ hi := by unfold inB; simp
def rowOk (ok : Bool → List Int → List Int → Bool) (r c : Int) (L : List Fr) (i : Int) : Bool := matB ok r c L && inB i (r - 1)
def rowL (ok : Bool → List Int → List Int → Bool) (r c : Int) (L : List Fr) (i : Int) : List Fr := if rowOk ok r c L i then (L.drop (i * c).toNat).take c.toNat else []
def cellF (ok : Bool → List Int → List Int → Bool) (r c : Int) (L : List Fr) (i k : Int) : Fr := if rowOk ok r c L i && inB k (c - 1) then L[(i * c + k).toNat]?.getD Fr.zero else Fr.zero
/-- A valid matrix: its numbers of rows and columns, and its elements. -/
theorem matB_parts {ok : Bool → List Int → List Int → Bool} {r c : Int} {L : List Fr} (h : matB ok r c L = true) :
    ∃ R C : Nat, r = R ∧ c = C ∧ R ≤ 24 ∧ C ≤ 24 ∧ L.length = R * C ∧ R * C ≤ 576 ∧ ∀ k (hk : k < L.length), ok (L[k]'hk).neg (L[k]'hk).mag (L[k]'hk).den = true := by
  unfold matB at h
  simp only [Bool.and_eq_true, decide_eq_true_eq, List.all_eq_true] at h
  obtain ⟨h1, h2, h3, h4⟩ := h
  have hd := dim_mul h1 h2
  obtain ⟨a1, a2⟩ := dimB_iff.1 h1
  obtain ⟨b1, b2⟩ := dimB_iff.1 h2
  obtain ⟨R, rfl⟩ : ∃ a : Nat, r = a := ⟨r.toNat, by omega⟩
  obtain ⟨C, rfl⟩ : ∃ a : Nat, c = a := ⟨c.toNat, by omega⟩
  rw [← Int.natCast_mul] at h3 hd
  exact ⟨R, C, rfl, rfl, by omega, by omega, by omega, by omega, fun k hk => h4 _ (List.getElem_mem hk)⟩
/-- Row i lies within the cells. -/
theorem row_in {R C i : Nat} (hi : i < R) : i * C + C ≤ R * C := by
  have := Nat.mul_le_mul_right C (show i + 1 ≤ R from hi)
  rw [Nat.add_mul, Nat.one_mul] at this
  exact this

set_option maxRecDepth 100000 in
set_option maxHeartbeats 1000000 in
theorem spec_rowOf (ok : Bool → List Int → List Int → Bool)
    (HOK : ∀ b v zs d ds w, RowR w v zs d ds → Calls Try.prog 61 #[.agg #[.bool b, v, d]] w fun r w' => r = .returned (.bool (ok b zs ds)) ∧ Below w.heap.size w w')
    (HC : ∀ (f : Fr), ok f.neg f.mag f.den = true → ∀ v d w, RowR w v f.mag d f.den → Calls Try.prog 67 #[.agg #[.bool f.neg, v, d]] w fun r w' => ∃ x y, r = .returned (.agg #[.bool f.neg, x, y]) ∧ OwnR w' w.heap.size x f.mag y f.den ∧ Below w.heap.size w w')
    (r c i : Int) (v : Value) (L : List Fr) (w : World) (h : RatsAt w v L) (hi : -9223372036854775808 ≤ i ∧ i ≤ 9223372036854775807) :
    Calls Try.prog 40 #[.agg #[.int .i64 r, .int .i64 c, v], .int .i64 i] w fun e w' => ∃ u xs, e = .returned u ∧ OwnV w' w.heap.size u (rowL ok r c L i) xs ∧ Below w.heap.size w w' := by
  obtain ⟨a, cap, rfl, hc, hm, hr⟩ := h
  have HR := Lib.hid (show RatsAt w (.slice a L.length cap) L from ⟨a, cap, rfl, hc, hm, hr⟩)
  unfold maxLen at hm
  clear hr
  obtain ⟨n, hnn⟩ : ∃ n, L.length = n := ⟨_, rfl⟩
  rw [hnn] at hc HR ⊢
  have HN := Lib.hid hnn
  clear hnn
  cases q0 : matB ok r c L with
  | false =>
    have e0 : rowL ok r c L i = [] := by unfold rowL rowOk; rw [q0]; rfl
    rw [e0]
    clear e0
    go_enter Try.func40, Try.ntmps40
    go_wp2_with fail
    obtain ⟨W0, hW0⟩ : ∃ x, x = w.alloc (.cells #[.int .i64 r, .int .i64 c, .slice a n cap] 25) := ⟨_, rfl⟩
    have D := Lib.hid (show B3 W0 w.heap.size 25 (.int .i64 r) (.int .i64 c) (.slice a n cap) by rw [hW0]; exact B3.new _ _ _ _ _)
    have B0 := Lib.hid (show Below w.heap.size w W0 by rw [hW0]; exact (Below.refl _ _).alloc (Nat.le_refl _) _)
    rw [← hW0]
    clear hW0
    have d0 := D.out.c0
    have d1 := D.out.c1
    have d2 := D.out.c2
    try go_wp2_with fail
    have T := spec_matrixOk ok HOK r c _ L W0 (HR.out.below B0.out)
    rw [q0] at T
    refine T.mono ?_
    rintro e w1 ⟨rfl, b1⟩
    replace D := Lib.hid (D.out.below b1)
    replace B0 := Lib.hid (B0.out.trans (b1.mono B0.out.size))
    clear b1 T d0 d1 d2
    go_wp2
    go_ret
    exact ⟨_, _, rfl, OwnV.nil _ _, B0.out⟩
  | true =>
  obtain ⟨R, C, rfl, rfl, hR, hC, hLn, hRC, hE⟩ := matB_parts q0
  rw [HN.out] at hLn
  have HLN := Lib.hid hLn
  have hn9 : n ≤ 576 := by omega
  clear hLn hRC
  cases q1 : inB i ((R : Int) - 1) with
  | false =>
    have e0 : rowL ok R C L i = [] := by unfold rowL rowOk; rw [q0, q1]; rfl
    rw [e0]
    clear e0
    have p1 : (decide (0 ≤ i) && decide (i ≤ (R : Int) - 1)) = false := q1
    go_enter Try.func40, Try.ntmps40
    go_wp2_with fail
    obtain ⟨W0, hW0⟩ : ∃ x, x = w.alloc (.cells #[.int .i64 (R : Int), .int .i64 (C : Int), .slice a n cap] 25) := ⟨_, rfl⟩
    have D := Lib.hid (show B3 W0 w.heap.size 25 (.int .i64 (R : Int)) (.int .i64 (C : Int)) (.slice a n cap) by rw [hW0]; exact B3.new _ _ _ _ _)
    have B0 := Lib.hid (show Below w.heap.size w W0 by rw [hW0]; exact (Below.refl _ _).alloc (Nat.le_refl _) _)
    rw [← hW0]
    clear hW0
    have d0 := D.out.c0
    have d1 := D.out.c1
    have d2 := D.out.c2
    try go_wp2_with fail
    have T := spec_matrixOk ok HOK R C _ L W0 (HR.out.below B0.out)
    rw [q0] at T
    refine T.mono ?_
    rintro e w1 ⟨rfl, b1⟩
    replace D := Lib.hid (D.out.below b1)
    replace B0 := Lib.hid (B0.out.trans (b1.mono B0.out.size))
    clear b1 T d0 d1 d2
    have d0 := D.out.c0
    have d1 := D.out.c1
    have d2 := D.out.c2
    go_wp2_with fail
    refine (spec_in _ _ _ _).mono ?_
    rw [p1]
    rintro e w' ⟨rfl, h9⟩
    replace h9 := h9.symm
    subst h9
    clear d0 d1 d2
    go_wp2
    go_ret
    exact ⟨_, _, rfl, OwnV.nil _ _, B0.out⟩
  | true =>
  have p1 : (decide (0 ≤ i) && decide (i ≤ (R : Int) - 1)) = true := q1
  obtain ⟨hi0, hi1⟩ := inB_iff.1 q1
  obtain ⟨I, rfl⟩ : ∃ a : Nat, i = a := ⟨i.toNat, by omega⟩
  have hin : I * C + C ≤ n := by rw [HLN.out]; exact row_in (by omega)
  have e0 : rowL ok R C L I = (L.drop (I * C)).take C := by
    unfold rowL rowOk; rw [q0, q1]; simp only [Bool.and_true, ite_true, ← Int.natCast_mul, Int.toNat_natCast]
  rw [e0]
  clear e0
  have HE := Lib.hid (show ∀ k (hk : k < ((L.drop (I * C)).take C).length), ok (((L.drop (I * C)).take C)[k]'hk).neg (((L.drop (I * C)).take C)[k]'hk).mag (((L.drop (I * C)).take C)[k]'hk).den = true by
    intro k hk; simp only [List.getElem_take, List.getElem_drop]; exact hE _ _)
  have HL9 := Lib.hid (show ((L.drop (I * C)).take C).length ≤ 100000 by rw [List.length_take]; omega)
  clear hE
  obtain ⟨Z, hZ⟩ : ∃ x, x = (L.drop (I * C)).take C := ⟨_, rfl⟩
  rw [← hZ]
  have HSR := Lib.hid (fun W (hW : Below w.heap.size w W) => spec_row (R : Int) C I n a cap L W (HR.out.below hW) hin (by omega) hC (by omega))
  rw [← hZ] at HSR HE HL9
  clear hZ
  go_enter Try.func40, Try.ntmps40
  go_wp2_with fail
  obtain ⟨W0, hW0⟩ : ∃ x, x = w.alloc (.cells #[.int .i64 (R : Int), .int .i64 (C : Int), .slice a n cap] 25) := ⟨_, rfl⟩
  have D := Lib.hid (show B3 W0 w.heap.size 25 (.int .i64 (R : Int)) (.int .i64 (C : Int)) (.slice a n cap) by rw [hW0]; exact B3.new _ _ _ _ _)
  have B0 := Lib.hid (show Below w.heap.size w W0 by rw [hW0]; exact (Below.refl _ _).alloc (Nat.le_refl _) _)
  rw [← hW0]
  clear hW0
  have d0 := D.out.c0
  have d1 := D.out.c1
  have d2 := D.out.c2
  try go_wp2_with fail
  have T := spec_matrixOk ok HOK R C _ L W0 (HR.out.below B0.out)
  rw [q0] at T
  refine T.mono ?_
  rintro e w1 ⟨rfl, b1⟩
  replace D := Lib.hid (D.out.below b1)
  replace B0 := Lib.hid (B0.out.trans (b1.mono B0.out.size))
  clear b1 T d0 d1 d2
  have d0 := D.out.c0
  have d1 := D.out.c1
  have d2 := D.out.c2
  go_wp2_with fail
  refine (spec_in _ _ _ _).mono ?_
  rw [p1]
  rintro e w' ⟨rfl, h9⟩
  replace h9 := h9.symm
  subst h9
  clear d0 d1 d2
  have d0 := D.out.c0
  have d1 := D.out.c1
  have d2 := D.out.c2
  have T := HSR.out _ B0.out
  go_wp2_with fail
  refine T.mono ?_
  rintro e w3 ⟨u3, rfl, r3, b3⟩
  replace B0 := Lib.hid (B0.out.trans (b3.mono B0.out.size))
  clear T b3 d0 d1 d2
  obtain ⟨a3, c3, rfl, hc3, hm3⟩ := ratsAt_form r3
  have T := spec_vecCopy (fun f => ok f.neg f.mag f.den = true) HC _ _ w3 r3 HL9.out HE.out
  go_wp2_with fail
  refine T.mono ?_
  rintro e w4 ⟨u4, x4, rfl, o4, b4⟩
  go_wp2
  go_ret
  exact ⟨_, _, rfl, o4.base B0.out.size, B0.out.trans (b4.mono B0.out.size)⟩
theorem ownR_none (w : World) (B : Nat) : OwnR w B (.slice none 0 0) [] (.slice none 0 0) [] := ⟨OwnI.nil _ _, OwnI.nil _ _, fun g g' h _ => by simp [Value.ownBlock] at h⟩
theorem cell_end {w wn : World} {p B : Nat} {t : TypeId} {b b' : Bool} {v d u e : Value} {zs ds : List Int} (hB : Below w.heap.size w wn) (D : B3 wn p t (.bool b) v d) (ho : OwnR wn B u zs e ds) (ht : t ≠ 3) (h1 : w.heap.size ≤ B) (h2 : w.heap.size ≤ p) (y z : Value) :
    OwnR (((wn.setCell ⟨p, 0, none⟩ (.bool b')).setCell ⟨p, 1, none⟩ y).setCell ⟨p, 2, none⟩ z) w.heap.size u zs e ds ∧ Below w.heap.size w (((wn.setCell ⟨p, 0, none⟩ (.bool b')).setCell ⟨p, 1, none⟩ y).setCell ⟨p, 2, none⟩ z) :=
  ⟨(ho.set3 D.rx ht y z).base h1, ((hB.setCell h2 _).setCell h2 _).setCell h2 _⟩

set_option maxRecDepth 100000 in
set_option maxHeartbeats 1000000 in
theorem spec_at (r : Int) (C i k n : Nat) (a : Option Addr) (cap : Nat) (L : List Fr) (w : World) (h : RatsAt w (.slice a n cap) L) (hi : i * C + k < n) (hn : n ≤ 576) (hC : C ≤ 24) (hi2 : i ≤ 24) (hlt : i * C + k < L.length) :
    Calls Try.prog 68 #[.agg #[.int .i64 r, .int .i64 (C : Int), .slice a n cap], .int .i64 (i : Int), .int .i64 (k : Int)] w fun e w' => ∃ x y, e = .returned (.agg #[.bool (L[i * C + k]'hlt).neg, x, y]) ∧ RowR w' x (L[i * C + k]'hlt).mag y (L[i * C + k]'hlt).den ∧ Below w.heap.size w w' := by
  obtain ⟨a0, c0, e, h1, h2, h3⟩ := h
  injection e with e1 e2 e3
  subst e1 e2 e3
  unfold maxLen at h2
  obtain ⟨l, hl⟩ : ∃ l, i * C = l := ⟨_, rfl⟩
  have p1 : (i : Int) * (C : Int) = (l : Int) := by rw [← hl, Int.natCast_mul]
  have p2 : (l : Int) + (k : Int) = ((l + k : Nat) : Int) := by omega
  obtain ⟨b, o, x, y, rfl, k0, k1, k2, hrr⟩ := h3 (i * C + k) hlt
  clear h3
  obtain ⟨f, hf⟩ : ∃ f, f = L[i * C + k]'hlt := ⟨_, rfl⟩
  rw [← hf] at k0 hrr ⊢
  clear hf
  obtain ⟨n, hnn⟩ : ∃ n, L.length = n := ⟨_, rfl⟩
  rw [hnn] at h1 hn hi ⊢
  clear hnn hlt
  rw [hl] at k0 k1 k2 hi
  clear hl
  obtain ⟨j, hj⟩ : ∃ j, l + k = j := ⟨_, rfl⟩
  rw [hj] at k0 k1 k2 hi p2
  have RR := Lib.hid hrr
  obtain ⟨a1, r1, a2, r2, rfl, rfl, hz1, hz2⟩ := rowR_len hrr
  clear hrr hj
  have BA := Lib.hid (((Below.refl w.heap.size w).alloc (Nat.le_refl _) (.cells #[.int .i64 r, .int .i64 (C : Int), .slice (some ⟨b, o, none⟩) n cap] 25)).alloc (by simp) (.cells #[.bool false, .slice none 0 0, .slice none 0 0] 42))
  obtain ⟨W0, hW0⟩ : ∃ x, x = (w.alloc (.cells #[.int .i64 r, .int .i64 (C : Int), .slice (some ⟨b, o, none⟩) n cap] 25)).alloc (.cells #[.bool false, .slice none 0 0, .slice none 0 0] 42) := ⟨_, rfl⟩
  have D := Lib.hid (show B3 W0 w.heap.size 25 (.int .i64 r) (.int .i64 (C : Int)) (.slice (some ⟨b, o, none⟩) n cap) by rw [hW0]; exact (B3.new _ _ _ _ _).alloc _)
  have Z := Lib.hid (show B3 W0 (w.heap.size + 1) 42 (.bool false) (.slice none 0 0) (.slice none 0 0) by rw [hW0]; exact b3_at (B3.new _ _ _ _ _) (by simp))
  rw [← hW0] at BA
  have HW := Lib.hid hW0
  clear hW0
  have c0 := (BA.out.cell (World.block_lt_of_cell? w _ k0)).trans k0
  have c1 := (BA.out.cell (World.block_lt_of_cell? w _ k1)).trans k1
  have c2 := (BA.out.cell (World.block_lt_of_cell? w _ k2)).trans k2
  clear k0 k1 k2
  have e2 := Lib.hid (((BA.out.setCell (p := ⟨w.heap.size + 1, 0, none⟩) (by simp) (.bool f.neg)).setCell (p := ⟨w.heap.size + 1, 1, none⟩) (by simp) (.slice a1 f.mag.length r1)).setCell (p := ⟨w.heap.size + 1, 2, none⟩) (by simp) (.slice a2 f.den.length r2))
  have D8 := Z.out.set3 (.bool f.neg) (.slice a1 f.mag.length r1) (.slice a2 f.den.length r2)
  have hc0 := D8.c0; have hc1 := D8.c1; have hc2 := D8.c2
  clear D8
  have d0 := D.out.c0
  have d1 := D.out.c1
  have d2 := D.out.c2
  have z0 := Z.out.c0
  have z1 := Z.out.c1
  have z2 := Z.out.c2
  have y0 := Z.out.f 0
  have y1 := Z.out.f 1
  have y2 := Z.out.f 2
  go_enter Try.func68, Try.ntmps68
  go_wp2_with (rw [← HW.out])
  exact bodyPost_ret (v := .agg #[.bool f.neg, .slice a1 f.mag.length r1, .slice a2 f.den.length r2]) (by simp [results, Try.results68, go_sem, hc0, hc1, hc2]) rfl ⟨_, _, rfl, RR.out.below e2.out, e2.out⟩

set_option maxRecDepth 100000 in
set_option maxHeartbeats 1000000 in
theorem spec_cellAt (ok : Bool → List Int → List Int → Bool)
    (HOK : ∀ b v zs d ds w, RowR w v zs d ds → Calls Try.prog 61 #[.agg #[.bool b, v, d]] w fun r w' => r = .returned (.bool (ok b zs ds)) ∧ Below w.heap.size w w')
    (HC : ∀ (f : Fr), ok f.neg f.mag f.den = true → ∀ v d w, RowR w v f.mag d f.den → Calls Try.prog 67 #[.agg #[.bool f.neg, v, d]] w fun r w' => ∃ x y, r = .returned (.agg #[.bool f.neg, x, y]) ∧ OwnR w' w.heap.size x f.mag y f.den ∧ Below w.heap.size w w')
    (r c i k : Int) (v : Value) (L : List Fr) (w : World) (h : RatsAt w v L) (hi : -9223372036854775808 ≤ i ∧ i ≤ 9223372036854775807) (hk : -9223372036854775808 ≤ k ∧ k ≤ 9223372036854775807) :
    Calls Try.prog 36 #[.agg #[.int .i64 r, .int .i64 c, v], .int .i64 i, .int .i64 k] w fun e w' => ∃ x y, e = .returned (.agg #[.bool (cellF ok r c L i k).neg, x, y]) ∧ OwnR w' w.heap.size x (cellF ok r c L i k).mag y (cellF ok r c L i k).den ∧ Below w.heap.size w w' := by
  obtain ⟨a, cap, rfl, hc, hm, hr⟩ := h
  have HR := Lib.hid (show RatsAt w (.slice a L.length cap) L from ⟨a, cap, rfl, hc, hm, hr⟩)
  unfold maxLen at hm
  clear hr
  obtain ⟨n, hnn⟩ : ∃ n, L.length = n := ⟨_, rfl⟩
  rw [hnn] at hc HR ⊢
  have HN := Lib.hid hnn
  clear hnn
  cases q0 : matB ok r c L with
  | false =>
    have e0 : cellF ok r c L i k = Fr.zero := by unfold cellF rowOk; rw [q0]; rfl
    rw [e0]
    clear e0
    go_enter Try.func36, Try.ntmps36
    go_wp2_with fail
    obtain ⟨W0, hW0⟩ : ∃ x, x = (w.alloc (.cells #[.int .i64 r, .int .i64 c, .slice a n cap] 25)).alloc (.cells #[.bool false, .slice none 0 0, .slice none 0 0] 42) := ⟨_, rfl⟩
    have D := Lib.hid (show B3 W0 w.heap.size 25 (.int .i64 r) (.int .i64 c) (.slice a n cap) by rw [hW0]; exact (B3.new _ _ _ _ _).alloc _)
    have Z := Lib.hid (show B3 W0 (w.heap.size + 1) 42 (.bool false) (.slice none 0 0) (.slice none 0 0) by rw [hW0]; exact b3_at (B3.new _ _ _ _ _) (by simp))
    have B0 := Lib.hid (show Below w.heap.size w W0 by rw [hW0]; exact ((Below.refl _ _).alloc (Nat.le_refl _) _).alloc (by simp) _)
    rw [← hW0]
    clear hW0
    have d0 := D.out.c0
    have d1 := D.out.c1
    have d2 := D.out.c2
    try go_wp2_with fail
    have T := spec_matrixOk ok HOK r c _ L W0 (HR.out.below B0.out)
    rw [q0] at T
    refine T.mono ?_
    rintro e w1 ⟨rfl, b1⟩
    replace D := Lib.hid (D.out.below b1)
    replace Z := Lib.hid (Z.out.below b1)
    replace B0 := Lib.hid (B0.out.trans (b1.mono B0.out.size))
    clear b1 T d0 d1 d2
    have DZ := Z.out
    have z0 := DZ.c0
    have z1 := DZ.c1
    have z2 := DZ.c2
    have y0 := DZ.f 0
    have y1 := DZ.f 1
    have y2 := DZ.f 2
    obtain ⟨e1, e2⟩ := cell_end B0.out DZ (ownR_none _ w.heap.size) (by decide) (Nat.le_refl _) (Nat.le_succ _) (b' := false) (.slice none 0 0) (.slice none 0 0)
    have D8 := DZ.set3 (.bool false) (.slice none 0 0) (.slice none 0 0)
    have hc0 := D8.c0; have hc1 := D8.c1; have hc2 := D8.c2
    clear D8
    go_wp2
    exact bodyPost_ret (v := .agg #[.bool false, (.slice none 0 0), (.slice none 0 0)]) (by simp [results, Try.results36, go_sem, hc0, hc1, hc2]) rfl ⟨_, _, rfl, e1, e2⟩
  | true =>
  obtain ⟨R, C, rfl, rfl, hR, hC, hLn, hRC, hE⟩ := matB_parts q0
  rw [HN.out] at hLn
  have HLN := Lib.hid hLn
  have hn9 : n ≤ 576 := by omega
  clear hLn hRC
  cases q1 : inB i ((R : Int) - 1) with
  | false =>
    have e0 : cellF ok R C L i k = Fr.zero := by unfold cellF rowOk; rw [q0, q1]; rfl
    rw [e0]
    clear e0
    have p1 : (decide (0 ≤ i) && decide (i ≤ (R : Int) - 1)) = false := q1
    go_enter Try.func36, Try.ntmps36
    go_wp2_with fail
    obtain ⟨W0, hW0⟩ : ∃ x, x = (w.alloc (.cells #[.int .i64 (R : Int), .int .i64 (C : Int), .slice a n cap] 25)).alloc (.cells #[.bool false, .slice none 0 0, .slice none 0 0] 42) := ⟨_, rfl⟩
    have D := Lib.hid (show B3 W0 w.heap.size 25 (.int .i64 (R : Int)) (.int .i64 (C : Int)) (.slice a n cap) by rw [hW0]; exact (B3.new _ _ _ _ _).alloc _)
    have Z := Lib.hid (show B3 W0 (w.heap.size + 1) 42 (.bool false) (.slice none 0 0) (.slice none 0 0) by rw [hW0]; exact b3_at (B3.new _ _ _ _ _) (by simp))
    have B0 := Lib.hid (show Below w.heap.size w W0 by rw [hW0]; exact ((Below.refl _ _).alloc (Nat.le_refl _) _).alloc (by simp) _)
    rw [← hW0]
    clear hW0
    have d0 := D.out.c0
    have d1 := D.out.c1
    have d2 := D.out.c2
    try go_wp2_with fail
    have T := spec_matrixOk ok HOK R C _ L W0 (HR.out.below B0.out)
    rw [q0] at T
    refine T.mono ?_
    rintro e w1 ⟨rfl, b1⟩
    replace D := Lib.hid (D.out.below b1)
    replace Z := Lib.hid (Z.out.below b1)
    replace B0 := Lib.hid (B0.out.trans (b1.mono B0.out.size))
    clear b1 T d0 d1 d2
    have d0 := D.out.c0
    have d1 := D.out.c1
    have d2 := D.out.c2
    go_wp2_with fail
    refine (spec_in _ _ _ _).mono ?_
    rw [p1]
    rintro e w' ⟨rfl, h9⟩
    replace h9 := h9.symm
    subst h9
    clear d0 d1 d2
    have DZ := Z.out
    have z0 := DZ.c0
    have z1 := DZ.c1
    have z2 := DZ.c2
    have y0 := DZ.f 0
    have y1 := DZ.f 1
    have y2 := DZ.f 2
    obtain ⟨e1, e2⟩ := cell_end B0.out DZ (ownR_none _ w.heap.size) (by decide) (Nat.le_refl _) (Nat.le_succ _) (b' := false) (.slice none 0 0) (.slice none 0 0)
    have D8 := DZ.set3 (.bool false) (.slice none 0 0) (.slice none 0 0)
    have hc0 := D8.c0; have hc1 := D8.c1; have hc2 := D8.c2
    clear D8
    go_wp2
    exact bodyPost_ret (v := .agg #[.bool false, (.slice none 0 0), (.slice none 0 0)]) (by simp [results, Try.results36, go_sem, hc0, hc1, hc2]) rfl ⟨_, _, rfl, e1, e2⟩
  | true =>
  have p1 : (decide (0 ≤ i) && decide (i ≤ (R : Int) - 1)) = true := q1
  cases q2 : inB k ((C : Int) - 1) with
  | false =>
    have e0 : cellF ok R C L i k = Fr.zero := by unfold cellF rowOk; rw [q0, q1, q2]; rfl
    rw [e0]
    clear e0
    have p2 : (decide (0 ≤ k) && decide (k ≤ (C : Int) - 1)) = false := q2
    go_enter Try.func36, Try.ntmps36
    go_wp2_with fail
    obtain ⟨W0, hW0⟩ : ∃ x, x = (w.alloc (.cells #[.int .i64 (R : Int), .int .i64 (C : Int), .slice a n cap] 25)).alloc (.cells #[.bool false, .slice none 0 0, .slice none 0 0] 42) := ⟨_, rfl⟩
    have D := Lib.hid (show B3 W0 w.heap.size 25 (.int .i64 (R : Int)) (.int .i64 (C : Int)) (.slice a n cap) by rw [hW0]; exact (B3.new _ _ _ _ _).alloc _)
    have Z := Lib.hid (show B3 W0 (w.heap.size + 1) 42 (.bool false) (.slice none 0 0) (.slice none 0 0) by rw [hW0]; exact b3_at (B3.new _ _ _ _ _) (by simp))
    have B0 := Lib.hid (show Below w.heap.size w W0 by rw [hW0]; exact ((Below.refl _ _).alloc (Nat.le_refl _) _).alloc (by simp) _)
    rw [← hW0]
    clear hW0
    have d0 := D.out.c0
    have d1 := D.out.c1
    have d2 := D.out.c2
    try go_wp2_with fail
    have T := spec_matrixOk ok HOK R C _ L W0 (HR.out.below B0.out)
    rw [q0] at T
    refine T.mono ?_
    rintro e w1 ⟨rfl, b1⟩
    replace D := Lib.hid (D.out.below b1)
    replace Z := Lib.hid (Z.out.below b1)
    replace B0 := Lib.hid (B0.out.trans (b1.mono B0.out.size))
    clear b1 T d0 d1 d2
    have d0 := D.out.c0
    have d1 := D.out.c1
    have d2 := D.out.c2
    go_wp2_with fail
    refine (spec_in _ _ _ _).mono ?_
    rw [p1]
    rintro e w' ⟨rfl, h9⟩
    replace h9 := h9.symm
    subst h9
    clear d0 d1 d2
    have d0 := D.out.c0
    have d1 := D.out.c1
    have d2 := D.out.c2
    go_wp2_with fail
    refine (spec_in _ _ _ _).mono ?_
    rw [p2]
    rintro e w' ⟨rfl, h9⟩
    replace h9 := h9.symm
    subst h9
    clear d0 d1 d2
    have DZ := Z.out
    have z0 := DZ.c0
    have z1 := DZ.c1
    have z2 := DZ.c2
    have y0 := DZ.f 0
    have y1 := DZ.f 1
    have y2 := DZ.f 2
    obtain ⟨e1, e2⟩ := cell_end B0.out DZ (ownR_none _ w.heap.size) (by decide) (Nat.le_refl _) (Nat.le_succ _) (b' := false) (.slice none 0 0) (.slice none 0 0)
    have D8 := DZ.set3 (.bool false) (.slice none 0 0) (.slice none 0 0)
    have hc0 := D8.c0; have hc1 := D8.c1; have hc2 := D8.c2
    clear D8
    go_wp2
    exact bodyPost_ret (v := .agg #[.bool false, (.slice none 0 0), (.slice none 0 0)]) (by simp [results, Try.results36, go_sem, hc0, hc1, hc2]) rfl ⟨_, _, rfl, e1, e2⟩
  | true =>
  have p2 : (decide (0 ≤ k) && decide (k ≤ (C : Int) - 1)) = true := q2
  obtain ⟨hi0, hi1⟩ := inB_iff.1 q1
  obtain ⟨hk0, hk1⟩ := inB_iff.1 q2
  obtain ⟨I, rfl⟩ : ∃ a : Nat, i = a := ⟨i.toNat, by omega⟩
  obtain ⟨K, rfl⟩ : ∃ a : Nat, k = a := ⟨k.toNat, by omega⟩
  have hin : I * C + K < n := by have := row_in (C := C) (show I < R by omega); rw [HLN.out]; omega
  have hlt : I * C + K < L.length := by rw [HN.out]; exact hin
  have e0 : cellF ok R C L I K = L[I * C + K]'hlt := by
    unfold cellF rowOk; rw [q0, q1, q2]
    simp only [Bool.and_true, ite_true, ← Int.natCast_mul, ← Int.natCast_add, Int.toNat_natCast, List.getElem?_eq_getElem hlt, Option.getD_some]
  have HSR := Lib.hid (fun W (hW : Below w.heap.size w W) => spec_at (R : Int) C I K n a cap L W (HR.out.below hW) hin (by omega) hC (by omega) hlt)
  have HE := Lib.hid (hE _ hlt)
  rw [e0]
  clear e0 hE
  obtain ⟨f, hf⟩ : ∃ f, f = L[I * C + K]'hlt := ⟨_, rfl⟩
  rw [← hf] at HSR HE ⊢
  clear hf
  go_enter Try.func36, Try.ntmps36
  go_wp2_with fail
  obtain ⟨W0, hW0⟩ : ∃ x, x = (w.alloc (.cells #[.int .i64 (R : Int), .int .i64 (C : Int), .slice a n cap] 25)).alloc (.cells #[.bool false, .slice none 0 0, .slice none 0 0] 42) := ⟨_, rfl⟩
  have D := Lib.hid (show B3 W0 w.heap.size 25 (.int .i64 (R : Int)) (.int .i64 (C : Int)) (.slice a n cap) by rw [hW0]; exact (B3.new _ _ _ _ _).alloc _)
  have Z := Lib.hid (show B3 W0 (w.heap.size + 1) 42 (.bool false) (.slice none 0 0) (.slice none 0 0) by rw [hW0]; exact b3_at (B3.new _ _ _ _ _) (by simp))
  have B0 := Lib.hid (show Below w.heap.size w W0 by rw [hW0]; exact ((Below.refl _ _).alloc (Nat.le_refl _) _).alloc (by simp) _)
  rw [← hW0]
  clear hW0
  have d0 := D.out.c0
  have d1 := D.out.c1
  have d2 := D.out.c2
  try go_wp2_with fail
  have T := spec_matrixOk ok HOK R C _ L W0 (HR.out.below B0.out)
  rw [q0] at T
  refine T.mono ?_
  rintro e w1 ⟨rfl, b1⟩
  replace D := Lib.hid (D.out.below b1)
  replace Z := Lib.hid (Z.out.below b1)
  replace B0 := Lib.hid (B0.out.trans (b1.mono B0.out.size))
  clear b1 T d0 d1 d2
  have d0 := D.out.c0
  have d1 := D.out.c1
  have d2 := D.out.c2
  go_wp2_with fail
  refine (spec_in _ _ _ _).mono ?_
  rw [p1]
  rintro e w' ⟨rfl, h9⟩
  replace h9 := h9.symm
  subst h9
  clear d0 d1 d2
  have d0 := D.out.c0
  have d1 := D.out.c1
  have d2 := D.out.c2
  go_wp2_with fail
  refine (spec_in _ _ _ _).mono ?_
  rw [p2]
  rintro e w' ⟨rfl, h9⟩
  replace h9 := h9.symm
  subst h9
  clear d0 d1 d2
  have d0 := D.out.c0
  have d1 := D.out.c1
  have d2 := D.out.c2
  have T := HSR.out _ B0.out
  go_wp2_with fail
  refine T.mono ?_
  rintro e w3 ⟨x3, y3, rfl, r3, b3⟩
  replace B0 := Lib.hid (B0.out.trans (b3.mono B0.out.size))
  replace Z := Lib.hid (Z.out.below b3)
  clear T b3 d0 d1 d2
  have RR := Lib.hid r3
  obtain ⟨a1, r1, a2, r2, rfl, rfl, hz1, hz2⟩ := rowR_len r3
  clear r3
  have T := HC f HE.out _ _ w3 RR.out
  go_wp2_with fail
  refine T.mono ?_
  rintro e w4 ⟨x4, y4, rfl, o4, b4⟩
  obtain ⟨a_r, c_r, e_r, f_r, rfl, rfl⟩ := o4.slices
  replace Z := Lib.hid (Z.out.below b4)
  have hps := B0.out.size
  replace B0 := Lib.hid (B0.out.trans (b4.mono B0.out.size))
  have DZ := Z.out
  have z0 := DZ.c0
  have z1 := DZ.c1
  have z2 := DZ.c2
  have y0 := DZ.f 0
  have y1 := DZ.f 1
  have y2 := DZ.f 2
  obtain ⟨e1, e2⟩ := cell_end B0.out DZ o4 (by decide) hps (Nat.le_succ _) (b' := f.neg) (.slice a_r f.mag.length c_r) (.slice e_r f.den.length f_r)
  have D8 := DZ.set3 (.bool f.neg) (.slice a_r f.mag.length c_r) (.slice e_r f.den.length f_r)
  have hc0 := D8.c0; have hc1 := D8.c1; have hc2 := D8.c2
  clear D8
  go_wp2
  exact bodyPost_ret (v := .agg #[.bool f.neg, (.slice a_r f.mag.length c_r), (.slice e_r f.den.length f_r)]) (by simp [results, Try.results36, go_sem, hc0, hc1, hc2]) rfl ⟨_, _, rfl, e1, e2⟩

end Go.Proofs.Ytojklmckjebplaa
