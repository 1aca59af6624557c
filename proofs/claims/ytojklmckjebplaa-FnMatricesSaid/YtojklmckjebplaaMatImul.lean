/- ApplyMatrix and Multiply of the program. -/
import Derived.Test.YtojklmckjebplaaMatIapp
import Derived.Test.YtojklmckjebplaaMatp
import Derived.Test.YtojklmckjebplaaMatx
import Derived.Test.YtojklmckjebplaaMatLens
import Derived.Test.YtojklmckjebplaaVecOk
namespace Go.Proofs.Ytojklmckjebplaa
open Go.RowKit Go.WideShapes Go.ChangeShapes Go.Shelf
set_option linter.unusedVariables false
set_option linter.unusedSimpArgs false
attribute [local go_sem] Oper.semAt_some
theorem mulX_comm (f g : Fr) : mulX f g = mulX g f := by
  unfold mulX
  rw [Nat.mul_comm (natI f.mag), Nat.mul_comm (natI f.den), show (f.neg == g.neg) = (g.neg == f.neg) by cases f.neg <;> cases g.neg <;> rfl]
theorem inn_comm (A B : List Fr) : innV A B = innV B A := by
  unfold innV zipF
  rw [List.zipWith_comm]
  congr 2
  funext a b
  exact mulX_comm b a
theorem apL_prC (L U : List Fr) (C i K : Nat) : apL innV U C (rowX L C i) K = prC innV L U C i K := by
  unfold apL prC
  apply List.map_congr_left
  intro k _
  exact inn_comm _ _
def mvS (L U : List Fr) (C K : Nat) (pre : List Nat) : List Fr := pre.flatMap (fun i => prC innV L U C i K)
theorem mvS_snoc (L U : List Fr) (C K : Nat) (pre : List Nat) (i : Nat) : mvS L U C K (pre ++ [i]) = mvS L U C K pre ++ prC innV L U C i K := by unfold mvS; rw [List.flatMap_append]; simp
theorem mvS_len (L U : List Fr) (C K : Nat) (pre : List Nat) : (mvS L U C K pre).length = pre.length * K := by
  induction pre with
  | nil => simp [mvS]
  | cons i pre ih =>
    have e : mvS L U C K (i :: pre) = prC innV L U C i K ++ mvS L U C K pre := rfl
    rw [e, List.length_append, prC_len, ih, List.length_cons, Nat.add_mul, Nat.one_mul, Nat.add_comm]
theorem mvS_all (L U : List Fr) (C K R : Nat) : mvS L U C K (List.range R) = prM innV L U C K R := rfl
theorem prM_fine {L U : List Fr} {C K R : Nat} {ys : List (RowA R)} (hy : ys.map rix = List.range R) (h : ∀ x ∈ ys, fineV (prC innV L U C (rix x) K) = true) : fineV (prM innV L U C K R) = true := by
  unfold fineV at h ⊢
  rw [List.all_eq_true]
  intro f hf
  unfold prM at hf
  rw [List.mem_flatMap] at hf
  obtain ⟨i, hi, hf⟩ := hf
  rw [← hy] at hi
  obtain ⟨x, hx, rfl⟩ := List.mem_map.1 hi
  exact List.all_eq_true.1 (h x hx) f hf
theorem prM_bad {L U : List Fr} {C K R i : Nat} (hi : i < R) (h : fineV (prC innV L U C i K) = false) : fineV (prM innV L U C K R) = false := by
  cases hq : fineV (prM innV L U C K R) with
  | false => rfl
  | true =>
    have : fineV (prC innV L U C i K) = true := by
      unfold fineV at hq ⊢
      rw [List.all_eq_true] at hq ⊢
      intro f hf
      exact hq f (by unfold prM; rw [List.mem_flatMap]; exact ⟨i, List.mem_range.2 hi, hf⟩)
    rw [this] at h; cases h
theorem prod_own {β : Type} (B p : Nat) (t : TypeId) (x y : Value) (f : β → List Fr) : Own (fun s W => ∃ vo xs, B3 W p t x y vo ∧ OwnV W B vo (f s) xs) := fun s X Y row ⟨vo, xs, h, h'⟩ hg hrow =>
  ⟨vo, xs, b3_own (β := Unit) p t x y vo () X Y row h hg hrow, h'.turn hg hrow⟩
set_option maxRecDepth 100000 in
theorem append_ratsIn {F : Fence} {nF : Nat} {ops : Array Oper} {rest : List Oper} {o : Oper} {a : Act} {Q : Exit → Act → World → Prop} {w : World} (hgd : o.guard = none) (s x : Operand)
    (ho : o.op = .call { callee := .builtin .append, args := #[s, x], argTypes := #[23, 23] })
    (B : Nat) (v : Value) (L : List Fr) (xs : List (Value × Value)) (hs : a.eval s = v) (hown : OwnV w B v L xs) (hL : L.length ≤ 100000) (hB : B ≤ w.heap.size)
    (g m c : Nat) (hx : a.eval x = .slice (some ⟨g, 0, none⟩) m c) (M : List Fr) (ys : List (Value × Value)) (h2 : OwnV w B (.slice (some ⟨g, 0, none⟩) m c) M ys) (hm2 : m ≤ 1000)
    (hne : ∀ i (hi : i < xs.length) j (hj : j < ys.length) r r', ((xs[i]'hi).1.ownBlock = some r ∨ (xs[i]'hi).2.ownBlock = some r) → ((ys[j]'hj).1.ownBlock = some r' ∨ (ys[j]'hj).2.ownBlock = some r') → r ≠ r')
    (hnr : ∀ j (hj : j < ys.length) r, ((ys[j]'hj).1.ownBlock = some r ∨ (ys[j]'hj).2.ownBlock = some r) → v.ownBlock ≠ some r)
    (h : ∀ v' w', OwnV w' B v' (L ++ M) (xs ++ ys) → w.grownBy w' v.ownBlock → wpListIn F nF Try.prog ops Q rest (a.put o.dst v') w') : wpListIn F nF Try.prog ops Q (o :: rest) a w := by
  obtain ⟨i0, hi, hz0, hz1, hz2⟩ := info_parts info_rat
  have hc := h2.count
  refine Go.wpListIn_append_own w hgd s x 23 ho B 42 i0 _ 3 56 Try.underlying23 hi hz0 hz1 hz2 rfl (by decide) v L.length (flat L xs) hs hown.row ⟨g, 0, none⟩ m c
    (flat M ys) hx (by rw [flat_len M ys h2.len, hc]) (fun j u hj => by
      have hlt := (List.getElem?_eq_some_iff.1 hj).1
      rw [flat_len M ys h2.len] at hlt
      have hrow := h2.row
      rw [hc] at hrow
      have := hrow.cellAt j (by omega)
      rw [show (⟨g, 0, none⟩ : Addr).add j = ⟨g, j, none⟩ by simp [Addr.add]; omega]
      exact this.trans hj) h2.one (by unfold maxLen; omega) (by omega) hB ?_
  intro v' w' hr hg _
  exact h v' w' (hown.append h2 hne hnr hg (by rw [hc]; exact hr)) hg
theorem impl_okL (r c : Int) (v : Value) (L : List Fr) (w : World) (h : RatsAt w v L) :
    Calls Try.prog 19 #[.agg #[.int .i64 r, .int .i64 c, v]] w fun e w' => e = .returned (.bool (matB ratOk r c L)) ∧ Below w.heap.size w w' :=
  impl_matrixOkH ratOk (fun v L w h => impl_isV v L w h) r c v L w h

set_option maxRecDepth 100000 in
set_option maxHeartbeats 2000000 in
theorem impl_applyMatrix (r c : Int) (v : Value) (L : List Fr) (u : Value) (V : List Fr) (w : World) (h : RatsAt w v L) (h' : RatsAt w u V) :
    Calls Try.prog 16 #[.agg #[.int .i64 r, .int .i64 c, v], u] w fun e w' => ∃ x xs, e = .returned (.tuple #[x, .bool (amB ratOk innV r c L V)]) ∧ OwnV w' w.heap.size x (amL ratOk innV r c L V) xs ∧ Below w.heap.size w w' := by
  have HR := Lib.hid h
  have HR' := Lib.hid h'
  obtain ⟨a, cap, rfl, hc1, hc2⟩ := ratsAt_form h
  obtain ⟨a', cap', rfl, hc1', hc2'⟩ := ratsAt_form h'
  clear h h'
  obtain ⟨n, hnn⟩ : ∃ n, L.length = n := ⟨_, rfl⟩
  obtain ⟨n', hnn'⟩ : ∃ n, V.length = n := ⟨_, rfl⟩
  rw [hnn] at HR hc1 ⊢
  rw [hnn'] at HR' hc1' ⊢
  have HN := Lib.hid hnn
  have HN' := Lib.hid hnn'
  clear hnn hnn'
  obtain ⟨W0, hW0⟩ : ∃ x, x = w.alloc (.cells #[.int .i64 r, .int .i64 c, .slice a n cap] 25) := ⟨_, rfl⟩
  have D := Lib.hid (show B3 W0 w.heap.size 25 (.int .i64 r) (.int .i64 c) (.slice a n cap) by rw [hW0]; exact B3.new _ _ _ _ _)
  have B0 := Lib.hid (show Below w.heap.size w W0 by rw [hW0]; exact (Below.refl _ _).alloc (Nat.le_refl _) _)
  have HW := Lib.hid hW0.symm
  clear hW0
  by_cases hl : (n' : Int) = c
  rotate_left
  · have hne : ((n' : Int) != c) = true := by rw [bne_iff_ne]; exact hl
    have HF := (show amB ratOk innV r c L V = false by unfold amB; rw [decide_eq_false (show ¬ (V.length : Int) = c by rw [HN'.out]; exact hl)]; simp)
    rw [HF, show amL ratOk innV r c L V = [] by unfold amL; rw [HF]; rfl]
    clear HF
    have d0 := D.out.c0
    have d1 := D.out.c1
    have d2 := D.out.c2
    go_enter Try.func16, Try.ntmps16
    go_wp2_with (rw [HW.out])
    exact bodyPost_ret (v := .tuple #[.slice none 0 0, .bool false]) (by simp [results, Try.results16, go_sem]) rfl ⟨.slice none 0 0, [], rfl, OwnV.nil _ _, B0.out⟩
  have hne : ((n' : Int) != c) = false := by unfold bne; rw [beq_iff_eq.2 hl]; rfl
  cases q0 : matB ratOk r c L with
  | false =>
    have HF := (show amB ratOk innV r c L V = false by unfold amB; rw [q0]; rfl)
    rw [HF, show amL ratOk innV r c L V = [] by unfold amL; rw [HF]; rfl]
    clear HF
    have d0 := D.out.c0
    have d1 := D.out.c1
    have d2 := D.out.c2
    go_enter Try.func16, Try.ntmps16
    go_wp2_with (rw [HW.out])
    refine (impl_okL _ _ _ L W0 (HR.out.below B0.out)).mono ?_
    rw [q0]
    rintro e w1 ⟨rfl, b1⟩
    replace D := Lib.hid (D.out.below b1)
    replace B0 := Lib.hid (B0.out.trans (b1.mono B0.out.size))
    clear b1 d0 d1 d2
    go_wp2
    exact bodyPost_ret (v := .tuple #[.slice none 0 0, .bool false]) (by simp [results, Try.results16, go_sem]) rfl ⟨.slice none 0 0, [], rfl, OwnV.nil _ _, B0.out⟩
  | true =>
  cases q1 : vecB ratOk V with
  | false =>
    have HF := (show amB ratOk innV r c L V = false by unfold amB; rw [q1]; simp)
    rw [HF, show amL ratOk innV r c L V = [] by unfold amL; rw [HF]; rfl]
    clear HF
    have d0 := D.out.c0
    have d1 := D.out.c1
    have d2 := D.out.c2
    go_enter Try.func16, Try.ntmps16
    go_wp2_with (rw [HW.out])
    refine (impl_okL _ _ _ L W0 (HR.out.below B0.out)).mono ?_
    rw [q0]
    rintro e w1 ⟨rfl, b1⟩
    replace D := Lib.hid (D.out.below b1)
    replace B0 := Lib.hid (B0.out.trans (b1.mono B0.out.size))
    clear b1 d0 d1 d2
    go_wp2_with fail
    refine (impl_isV _ V _ (HR'.out.below B0.out)).mono ?_
    rw [q1]
    rintro e w2 ⟨rfl, b2⟩
    replace B0 := Lib.hid (B0.out.trans (b2.mono B0.out.size))
    clear b2
    go_wp2
    exact bodyPost_ret (v := .tuple #[.slice none 0 0, .bool false]) (by simp [results, Try.results16, go_sem]) rfl ⟨.slice none 0 0, [], rfl, OwnV.nil _ _, B0.out⟩
  | true =>
  obtain ⟨R, C, rfl, rfl, hR, hC, hLn, hRC, hE⟩ := matB_parts q0
  obtain rfl : n' = C := by omega
  have HAP := Lib.hid (fun W (hW : Below w.heap.size w W) => impl_apply R n' n a cap L (.slice a' n' cap') V W (HR.out.below hW) (HR'.out.below hW) hR hC (by rw [← HN.out]; omega) HN.out (by rw [← HN.out]; exact hLn) HN'.out hE (vec_parts q1).2)
  have HF1 := Lib.hid (show amB ratOk innV R n' L V = fineV (apL innV L n' V R) by
    unfold amB; rw [q0, q1, decide_eq_true (show (V.length : Int) = n' by rw [HN'.out])]; simp)
  have HF2 := Lib.hid (show amL ratOk innV R n' L V = apR L n' V R by unfold amL apR; rw [HF1.out]; simp)
  rw [HF1.out, HF2.out]
  obtain ⟨x, hx⟩ : ∃ x, x = fineV (apL innV L n' V R) := ⟨_, rfl⟩
  obtain ⟨X, hX⟩ : ∃ X, X = apR L n' V R := ⟨_, rfl⟩
  rw [← hx, ← hX]
  rw [← hx, ← hX] at HAP
  clear hx hX HF1 HF2 hE hLn hRC
  have d0 := D.out.c0
  have d1 := D.out.c1
  have d2 := D.out.c2
  go_enter Try.func16, Try.ntmps16
  go_wp2_with (rw [HW.out])
  refine (impl_okL _ _ _ L W0 (HR.out.below B0.out)).mono ?_
  rw [q0]
  rintro e w1 ⟨rfl, b1⟩
  replace D := Lib.hid (D.out.below b1)
  replace B0 := Lib.hid (B0.out.trans (b1.mono B0.out.size))
  clear b1 d0 d1 d2
  have d0 := D.out.c0
  have d1 := D.out.c1
  have d2 := D.out.c2
  go_wp2_with fail
  refine (impl_isV _ V _ (HR'.out.below B0.out)).mono ?_
  rw [q1]
  rintro e w2 ⟨rfl, b2⟩
  replace D := Lib.hid (D.out.below b2)
  replace B0 := Lib.hid (B0.out.trans (b2.mono B0.out.size))
  clear b2 d0 d1 d2
  have d0 := D.out.c0
  have d1 := D.out.c1
  have d2 := D.out.c2
  go_wp2_with fail
  refine (HAP.out _ B0.out).mono ?_
  rintro e w3 ⟨x3, xs, rfl, o3, b3, _⟩
  obtain ⟨a9, c9, rfl⟩ := o3.slice
  have O3 := Lib.hid (o3.base B0.out.size)
  replace B0 := Lib.hid (B0.out.trans (b3.mono B0.out.size))
  clear b3 o3 d0 d1 d2
  go_wp2
  exact bodyPost_ret (v := .tuple #[.slice a9 X.length c9, .bool x]) (by simp [results, Try.results16, go_sem]) rfl ⟨_, xs, rfl, O3.out, B0.out⟩

set_option maxRecDepth 100000 in
set_option maxHeartbeats 4000000 in
theorem impl_multiply (r0 c0 : Int) (v0 : Value) (L0 : List Fr) (r1 c1 : Int) (v1 : Value) (L1 : List Fr) (w : World) (h0 : RatsAt w v0 L0) (h1 : RatsAt w v1 L1) :
    Calls Try.prog 14 #[.agg #[.int .i64 r0, .int .i64 c0, v0], .agg #[.int .i64 r1, .int .i64 c1, v1]] w fun e w' => ∃ u xs, e = .returned (.tuple #[.agg #[.int .i64 (mpR ratOk innV r0 c0 L0 r1 c1 L1), .int .i64 (mpC ratOk innV r0 c0 L0 r1 c1 L1), u], .bool (mpB ratOk innV r0 c0 L0 r1 c1 L1)]) ∧ OwnV w' w.heap.size u (mpL ratOk innV r0 c0 L0 r1 c1 L1) xs ∧ Below w.heap.size w w' := by
  have R0 := Lib.hid h0
  have R1 := Lib.hid h1
  obtain ⟨a, k, rfl, hk, hk2⟩ := ratsAt_form h0
  obtain ⟨a', k', rfl, hk', hk2'⟩ := ratsAt_form h1
  obtain ⟨n, hn⟩ : ∃ n, L0.length = n := ⟨_, rfl⟩
  obtain ⟨n', hn'⟩ : ∃ n, L1.length = n := ⟨_, rfl⟩
  rw [hn] at R0 hk ⊢
  rw [hn'] at R1 hk' ⊢
  have HN := Lib.hid hn
  have HN' := Lib.hid hn'
  clear hn hn' h0 h1
  obtain ⟨h, hh⟩ : ∃ h, w.heap.size = h := ⟨_, rfl⟩
  obtain ⟨W0, hW0⟩ : ∃ x, x = (((w.alloc (.cells #[.int .i64 r0, .int .i64 c0, .slice a n k] 25)).alloc (.cells #[.int .i64 r1, .int .i64 c1, .slice a' n' k'] 25)).alloc (.cells #[.int .i64 0, .int .i64 0, .slice none 0 0] 25)).alloc (.cells #[.bool false] 4) := ⟨_, rfl⟩
  have D := Lib.hid (show B3 W0 h 25 (.int .i64 r0) (.int .i64 c0) (.slice a n k) by rw [hW0, ← hh]; exact (((B3.new _ _ _ _ _).alloc _).alloc _).alloc _)
  have E := Lib.hid (show B3 W0 (h + 1) 25 (.int .i64 r1) (.int .i64 c1) (.slice a' n' k') by rw [hW0, ← hh]; exact (b3_at (B3.new _ _ _ _ _) (by simp)).alloc _ |>.alloc _)
  have Z := Lib.hid (show B3 W0 (h + 1 + 1) 25 (.int .i64 0) (.int .i64 0) (.slice none 0 0) by rw [hW0, ← hh]; exact (b3_at (B3.new _ _ _ _ _) (by simp)).alloc _)
  have Y := Lib.hid (show Boxed W0 (h + 1 + 1 + 1) 4 (.bool false) by rw [hW0, ← hh]; have hb := Boxed.new (((w.alloc (.cells #[.int .i64 r0, .int .i64 c0, .slice a n k] 25)).alloc (.cells #[.int .i64 r1, .int .i64 c1, .slice a' n' k'] 25)).alloc (.cells #[.int .i64 0, .int .i64 0, .slice none 0 0] 25)) 4 (.bool false); simp only [World.size_alloc] at hb; exact hb)
  have B0 := Lib.hid (show Below h w W0 by rw [hW0, ← hh]; exact ((((Below.refl _ _).alloc (Nat.le_refl _) _).alloc (by simp) _).alloc (by simp; omega) _).alloc (by simp; omega) _)
  have HW := Lib.hid hW0.symm
  have HH := Lib.hid hh
  clear hW0
  rw [hh]
  cases g0 : (c0 == r1) with
  | false =>
    have HF := (show mpB ratOk innV r0 c0 L0 r1 c1 L1 = false by unfold mpB; rw [g0]; simp)
    rw [(mp_no HF).1, (mp_no HF).2.1, (mp_no HF).2.2, HF]
    clear HF
    have g2 : (c0 != r1) = true := by unfold bne; rw [g0]; rfl
    have d0 := D.out.c0
    have d1 := D.out.c1
    have d2 := D.out.c2
    have e0 := E.out.c0
    have e1 := E.out.c1
    have e2 := E.out.c2
    have z0 := Z.out.c0
    have z1 := Z.out.c1
    have z2 := Z.out.c2
    have x0 := Z.out.f 0
    have x1 := Z.out.f 1
    have x2 := Z.out.f 2
    have y0 := Y.out.cell
    have y1 := Y.out.frozen
    have D8 := (Z.out.set3 (.int .i64 0) (.int .i64 0) (.slice none 0 0)).far (q := h + 1 + 1 + 1) (j := 0) (by omega) (.bool false)
    have hc0 := D8.c0
    have hc1 := D8.c1
    have hc2 := D8.c2
    have ee1 := ((boxed_keptK Y.out (((kept_set _ (h + 1 + 1) 0 (.int .i64 0)).trans (kept_set _ (h + 1 + 1) 1 (.int .i64 0))).trans (kept_set _ (h + 1 + 1) 2 (.slice none 0 0))) (by omega)).set (.bool false)).cell
    have B9 := Lib.hid ((((B0.out.setCell (p := ⟨h + 1 + 1, 0, none⟩) (by simp; omega) (.int .i64 0)).setCell (p := ⟨h + 1 + 1, 1, none⟩) (by simp; omega) (.int .i64 0)).setCell (p := ⟨h + 1 + 1, 2, none⟩) (by simp; omega) (.slice none 0 0)).setCell (p := ⟨h + 1 + 1 + 1, 0, none⟩) (by simp; omega) (.bool false))
    clear D8
    refine (callsIn_wide (n := 3)).1 ?_
    refine callsIn_of_wp_marks Try.func14 rfl trivial ?_ rfl
    simp only [Try.ntmps14, List.size_toArray, List.length_cons, List.length_nil, Nat.reduceAdd, Nat.reduceSub, Array.replicate_succ, Array.replicate_zero, List.push_toArray, List.append_toArray, List.nil_append, List.cons_append]
    refine wpIn_wide.2 ?_
    go_wp2_with (rw [HW.out])
    refine ⟨.tuple #[.agg #[.int .i64 0, .int .i64 0, .slice none 0 0], .bool false], ?_, ?_⟩
    · simp [results, Try.f14, go_sem, hc0, hc1, hc2, ee1]
    · first | exact ⟨_, rfl, ⟨_, OwnV.nil _ _⟩, B9.out⟩ | exact ⟨_, _, rfl, OwnV.nil _ _, B9.out⟩
  | true =>
  obtain rfl := eq_of_beq g0
  clear g0
  cases q0 : matB ratOk r0 c0 L0 with
  | false =>
    have HF := (show mpB ratOk innV r0 c0 L0 c0 c1 L1 = false by unfold mpB; rw [q0]; rfl)
    rw [(mp_no HF).1, (mp_no HF).2.1, (mp_no HF).2.2, HF]
    clear HF
    have d0 := D.out.c0
    have d1 := D.out.c1
    have d2 := D.out.c2
    have e0 := E.out.c0
    have e1 := E.out.c1
    have e2 := E.out.c2
    refine (callsIn_wide (n := 3)).1 ?_
    refine callsIn_of_wp_marks Try.func14 rfl trivial ?_ rfl
    simp only [Try.ntmps14, List.size_toArray, List.length_cons, List.length_nil, Nat.reduceAdd, Nat.reduceSub, Array.replicate_succ, Array.replicate_zero, List.push_toArray, List.append_toArray, List.nil_append, List.cons_append]
    refine wpIn_wide.2 ?_
    go_wp2_with (rw [HW.out])
    refine (impl_okL _ _ _ L0 _ (R0.out.below (by rw [HH.out]; exact B0.out))).mono ?_
    rw [q0]
    rintro e w9 ⟨rfl, b9⟩
    replace D := Lib.hid (D.out.below b9)
    replace E := Lib.hid (E.out.below b9)
    replace Z := Lib.hid (Z.out.below b9)
    replace Y := Lib.hid (Y.out.kept (grown_of_below b9 none) (fun e => by cases e))
    have hb9 := (show h ≤ W0.heap.size by have := B0.out.size; rw [HH.out] at this; exact this)
    replace B0 := Lib.hid (B0.out.trans (b9.mono hb9))
    clear b9 hb9 d0 d1 d2 e0 e1 e2
    have z0 := Z.out.c0
    have z1 := Z.out.c1
    have z2 := Z.out.c2
    have x0 := Z.out.f 0
    have x1 := Z.out.f 1
    have x2 := Z.out.f 2
    have y0 := Y.out.cell
    have y1 := Y.out.frozen
    have D8 := (Z.out.set3 (.int .i64 0) (.int .i64 0) (.slice none 0 0)).far (q := h + 1 + 1 + 1) (j := 0) (by omega) (.bool false)
    have hc0 := D8.c0
    have hc1 := D8.c1
    have hc2 := D8.c2
    have e1 := ((boxed_keptK Y.out (((kept_set _ (h + 1 + 1) 0 (.int .i64 0)).trans (kept_set _ (h + 1 + 1) 1 (.int .i64 0))).trans (kept_set _ (h + 1 + 1) 2 (.slice none 0 0))) (by omega)).set (.bool false)).cell
    have B9 := Lib.hid ((((B0.out.setCell (p := ⟨h + 1 + 1, 0, none⟩) (by simp; omega) (.int .i64 0)).setCell (p := ⟨h + 1 + 1, 1, none⟩) (by simp; omega) (.int .i64 0)).setCell (p := ⟨h + 1 + 1, 2, none⟩) (by simp; omega) (.slice none 0 0)).setCell (p := ⟨h + 1 + 1 + 1, 0, none⟩) (by simp; omega) (.bool false))
    clear D8
    go_wp2_with fail
    refine ⟨.tuple #[.agg #[.int .i64 0, .int .i64 0, .slice none 0 0], .bool false], ?_, ?_⟩
    · simp [results, Try.f14, go_sem, hc0, hc1, hc2, e1]
    · first | exact ⟨_, rfl, ⟨_, OwnV.nil _ _⟩, B9.out⟩ | exact ⟨_, _, rfl, OwnV.nil _ _, B9.out⟩
  | true =>
  cases q1 : matB ratOk c0 c1 L1 with
  | false =>
    have HF := (show mpB ratOk innV r0 c0 L0 c0 c1 L1 = false by unfold mpB; rw [q1]; simp)
    rw [(mp_no HF).1, (mp_no HF).2.1, (mp_no HF).2.2, HF]
    clear HF
    have d0 := D.out.c0
    have d1 := D.out.c1
    have d2 := D.out.c2
    have e0 := E.out.c0
    have e1 := E.out.c1
    have e2 := E.out.c2
    refine (callsIn_wide (n := 3)).1 ?_
    refine callsIn_of_wp_marks Try.func14 rfl trivial ?_ rfl
    simp only [Try.ntmps14, List.size_toArray, List.length_cons, List.length_nil, Nat.reduceAdd, Nat.reduceSub, Array.replicate_succ, Array.replicate_zero, List.push_toArray, List.append_toArray, List.nil_append, List.cons_append]
    refine wpIn_wide.2 ?_
    go_wp2_with (rw [HW.out])
    refine (impl_okL _ _ _ L0 _ (R0.out.below (by rw [HH.out]; exact B0.out))).mono ?_
    rw [q0]
    rintro e w9 ⟨rfl, b9⟩
    replace D := Lib.hid (D.out.below b9)
    replace E := Lib.hid (E.out.below b9)
    replace Z := Lib.hid (Z.out.below b9)
    replace Y := Lib.hid (Y.out.kept (grown_of_below b9 none) (fun e => by cases e))
    have hb9 := (show h ≤ W0.heap.size by have := B0.out.size; rw [HH.out] at this; exact this)
    replace B0 := Lib.hid (B0.out.trans (b9.mono hb9))
    clear b9 hb9 d0 d1 d2 e0 e1 e2
    have d0 := D.out.c0
    have d1 := D.out.c1
    have d2 := D.out.c2
    have e0 := E.out.c0
    have e1 := E.out.c1
    have e2 := E.out.c2
    go_wp2_with fail
    refine (impl_okL _ _ _ L1 _ (R1.out.below (by rw [HH.out]; exact B0.out))).mono ?_
    rw [q1]
    rintro e w8 ⟨rfl, b9⟩
    replace D := Lib.hid (D.out.below b9)
    replace E := Lib.hid (E.out.below b9)
    replace Z := Lib.hid (Z.out.below b9)
    replace Y := Lib.hid (Y.out.kept (grown_of_below b9 none) (fun e => by cases e))
    have hb9 := (show h ≤ w9.heap.size by have := B0.out.size; rw [HH.out] at this; exact this)
    replace B0 := Lib.hid (B0.out.trans (b9.mono hb9))
    clear b9 hb9 d0 d1 d2 e0 e1 e2
    have z0 := Z.out.c0
    have z1 := Z.out.c1
    have z2 := Z.out.c2
    have x0 := Z.out.f 0
    have x1 := Z.out.f 1
    have x2 := Z.out.f 2
    have y0 := Y.out.cell
    have y1 := Y.out.frozen
    have D8 := (Z.out.set3 (.int .i64 0) (.int .i64 0) (.slice none 0 0)).far (q := h + 1 + 1 + 1) (j := 0) (by omega) (.bool false)
    have hc0 := D8.c0
    have hc1 := D8.c1
    have hc2 := D8.c2
    have e1 := ((boxed_keptK Y.out (((kept_set _ (h + 1 + 1) 0 (.int .i64 0)).trans (kept_set _ (h + 1 + 1) 1 (.int .i64 0))).trans (kept_set _ (h + 1 + 1) 2 (.slice none 0 0))) (by omega)).set (.bool false)).cell
    have B9 := Lib.hid ((((B0.out.setCell (p := ⟨h + 1 + 1, 0, none⟩) (by simp; omega) (.int .i64 0)).setCell (p := ⟨h + 1 + 1, 1, none⟩) (by simp; omega) (.int .i64 0)).setCell (p := ⟨h + 1 + 1, 2, none⟩) (by simp; omega) (.slice none 0 0)).setCell (p := ⟨h + 1 + 1 + 1, 0, none⟩) (by simp; omega) (.bool false))
    clear D8
    go_wp2_with fail
    refine ⟨.tuple #[.agg #[.int .i64 0, .int .i64 0, .slice none 0 0], .bool false], ?_, ?_⟩
    · simp [results, Try.f14, go_sem, hc0, hc1, hc2, e1]
    · first | exact ⟨_, rfl, ⟨_, OwnV.nil _ _⟩, B9.out⟩ | exact ⟨_, _, rfl, OwnV.nil _ _, B9.out⟩
  | true =>
  obtain ⟨R, C, rfl, rfl, hR, hC, hL0, hRC, hE0⟩ := matB_parts q0
  obtain ⟨C', K, hC', rfl, _, hK, hL1, hCK, hE1⟩ := matB_parts q1
  obtain rfl : C = C' := by omega
  clear hC'
  rw [HN.out] at hL0
  rw [HN'.out] at hL1
  have HRC := Lib.hid hL0
  have HCK := Lib.hid hL1
  have HE0 := Lib.hid hE0
  have HTL := Lib.hid (trM_len L1 C K K)
  have HTE := Lib.hid (trM_all (P := fun f => okF f = true) (show L1.length = C * K by rw [HN'.out]; exact hL1) hE1)
  have hKC : K * C ≤ 576 := by rw [Nat.mul_comm]; exact hCK
  have hn9 : n ≤ 576 := by omega
  have HT := Lib.hid (fun W (hW : Below h w W) => impl_transposeH ratOk (fun v L w h => impl_isV v L w h) (fun f hf v d w h => impl_cloneF f hf v d w h) C K _ L1 W (R1.out.below (by rw [HH.out]; exact hW)))
  have et : tpL ratOk C K L1 = trM L1 C K K ∧ tpR ratOk C K L1 = K ∧ tpC ratOk C K L1 = C := by unfold tpL tpR tpC; rw [q1]; exact ⟨rfl, rfl, rfl⟩
  rw [et.1, et.2.1, et.2.2] at HT
  have HM1 := Lib.hid (show mpB ratOk innV R C L0 C K L1 = fineV (prM innV L0 (trM L1 C K K) C K R) by unfold mpB mpV; rw [q0, q1]; simp)
  have HM2 := Lib.hid (fun hb => mp_yes (ok := ratOk) (inn := innV) (r := (R : Int)) (c := (C : Int)) (L := L0) (r' := (C : Int)) (c' := (K : Int)) (L' := L1) hb)
  have HM3 := Lib.hid (fun hb => mp_no (ok := ratOk) (inn := innV) (r := (R : Int)) (c := (C : Int)) (L := L0) (r' := (C : Int)) (c' := (K : Int)) (L' := L1) hb)
  have HM4 := Lib.hid (show mpV innV R C L0 C K L1 = prM innV L0 (trM L1 C K K) C K R by unfold mpV; simp)
  rw [HM4.out] at HM2
  obtain ⟨Tl, hTl⟩ : ∃ Tl, Tl = trM L1 C K K := ⟨_, rfl⟩
  rw [← hTl] at HT HTL HTE HM1 HM2
  obtain ⟨mb, hmb⟩ : ∃ b, b = mpB ratOk innV R C L0 C K L1 := ⟨_, rfl⟩
  obtain ⟨mr, hmr⟩ : ∃ b, b = mpR ratOk innV R C L0 C K L1 := ⟨_, rfl⟩
  obtain ⟨mc, hmc⟩ : ∃ b, b = mpC ratOk innV R C L0 C K L1 := ⟨_, rfl⟩
  obtain ⟨ml, hml⟩ : ∃ b, b = mpL ratOk innV R C L0 C K L1 := ⟨_, rfl⟩
  rw [← hmb] at HM1 HM2 HM3
  rw [← hmr, ← hmc, ← hml] at HM2 HM3
  rw [← hmb, ← hmr, ← hmc, ← hml]
  clear et hTl hmb hmr hmc hml HM4 hE0 hE1 hRC hCK hL0 hL1
  have d0 := D.out.c0
  have d1 := D.out.c1
  have d2 := D.out.c2
  have e0 := E.out.c0
  have e1 := E.out.c1
  have e2 := E.out.c2
  refine (callsIn_wide (n := 3)).1 ?_
  refine callsIn_of_wp_marks Try.func14 rfl trivial ?_ rfl
  simp only [Try.ntmps14, List.size_toArray, List.length_cons, List.length_nil, Nat.reduceAdd, Nat.reduceSub, Array.replicate_succ, Array.replicate_zero, List.push_toArray, List.append_toArray, List.nil_append, List.cons_append]
  refine wpIn_wide.2 ?_
  go_wp2_with (rw [HW.out])
  refine (impl_okL _ _ _ L0 _ (R0.out.below (by rw [HH.out]; exact B0.out))).mono ?_
  rw [q0]
  rintro e w9 ⟨rfl, b9⟩
  replace D := Lib.hid (D.out.below b9)
  replace E := Lib.hid (E.out.below b9)
  replace Z := Lib.hid (Z.out.below b9)
  replace Y := Lib.hid (Y.out.kept (grown_of_below b9 none) (fun e => by cases e))
  have hb9 := (show h ≤ W0.heap.size by have := B0.out.size; rw [HH.out] at this; exact this)
  replace B0 := Lib.hid (B0.out.trans (b9.mono hb9))
  clear b9 hb9 d0 d1 d2 e0 e1 e2
  have d0 := D.out.c0
  have d1 := D.out.c1
  have d2 := D.out.c2
  have e0 := E.out.c0
  have e1 := E.out.c1
  have e2 := E.out.c2
  go_wp2_with fail
  refine (impl_okL _ _ _ L1 _ (R1.out.below (by rw [HH.out]; exact B0.out))).mono ?_
  rw [q1]
  rintro e w8 ⟨rfl, b9⟩
  replace D := Lib.hid (D.out.below b9)
  replace E := Lib.hid (E.out.below b9)
  replace Z := Lib.hid (Z.out.below b9)
  replace Y := Lib.hid (Y.out.kept (grown_of_below b9 none) (fun e => by cases e))
  have hb9 := (show h ≤ w9.heap.size by have := B0.out.size; rw [HH.out] at this; exact this)
  replace B0 := Lib.hid (B0.out.trans (b9.mono hb9))
  clear b9 hb9 d0 d1 d2 e0 e1 e2
  clear q0 q1
  have hb8 := (show h ≤ w8.heap.size by have := B0.out.size; rw [HH.out] at this; exact this)
  have d0 := D.out.c0
  have d1 := D.out.c1
  have d2 := D.out.c2
  have e0 := E.out.c0
  have e1 := E.out.c1
  have e2 := E.out.c2
  obtain ⟨p6, hp6⟩ : ∃ p, p = w8.heap.size := ⟨_, rfl⟩
  obtain ⟨W2, hW2⟩ : ∃ x, x = w8.alloc (.cells #[.int .i64 (R : Int), .int .i64 (K : Int), .slice none 0 0] 25) := ⟨_, rfl⟩
  have E2 := E.out.alloc (.cells #[.int .i64 (R : Int), .int .i64 (K : Int), .slice none 0 0] 25)
  have e20 := E2.c0
  have e21 := E2.c1
  have e22 := E2.c2
  clear E2
  have hW2' := Lib.hid hW2.symm
  have hp6' := Lib.hid hp6.symm
  have BW2 := Lib.hid (show Below h w W2 by rw [hW2]; exact B0.out.alloc hb8 _)
  have D2 := Lib.hid (show B3 W2 h 25 (.int .i64 (R : Int)) (.int .i64 (C : Int)) (.slice a n k) by rw [hW2]; exact D.out.alloc _)
  have Z2 := Lib.hid (show B3 W2 (h + 1 + 1) 25 (.int .i64 0) (.int .i64 0) (.slice none 0 0) by rw [hW2]; exact Z.out.alloc _)
  have Y2 := Lib.hid (show Boxed W2 (h + 1 + 1 + 1) 4 (.bool false) by rw [hW2]; exact Y.out.alloc _)
  have P2 := Lib.hid (show B3 W2 p6 25 (.int .i64 (R : Int)) (.int .i64 (K : Int)) (.slice none 0 0) by rw [hW2, hp6]; exact B3.new _ _ _ _ _)
  have SP := Lib.hid (show h + 1 + 1 + 1 < p6 by rw [hp6]; exact Y.out.lt)
  have S2 := Lib.hid (show p6 < W2.heap.size by exact P2.out.lt)
  clear hW2 hp6
  go_wp2_with fail
  rw [hW2'.out, hp6'.out]
  clear hW2' hp6' d0 d1 d2 e0 e1 e2 e20 e21 e22 D E Z Y B0 HW
  refine (HT.out W2 BW2.out).mono ?_
  rintro e w3 ⟨u, ys, rfl, o3, b3⟩
  obtain ⟨au, cu, rfl⟩ := o3.slice
  rw [HTL.out] at o3 ⊢
  obtain ⟨nu, hnu⟩ : ∃ nu, nu = K * C := ⟨_, rfl⟩
  rw [← hnu] at o3 hKC HTL ⊢
  have HNU := Lib.hid hnu
  have D3 := Lib.hid (D2.out.below b3)
  have Z3 := Lib.hid (Z2.out.below b3)
  have Y3 := Lib.hid (Y2.out.kept (grown_of_below b3 none) (fun e => by cases e))
  have P3 := Lib.hid (P2.out.below b3)
  have U3 := Lib.hid o3
  have LU := Lib.hid o3.lt
  have b23 := (show Below h w w3 from BW2.out.trans (b3.mono (by have := SP.out; have := S2.out; omega)))
  have S3 := Lib.hid (show W2.heap.size ≤ w3.heap.size from b3.size)
  clear b3 o3 hnu D2 Z2 Y2 P2 BW2
  obtain ⟨p7, hp7⟩ : ∃ p, p = w3.heap.size := ⟨_, rfl⟩
  have D4 := D3.out.alloc (.cells #[.int .i64 (K : Int), .int .i64 (C : Int), .slice au nu cu] 25)
  have d0 := D4.c0
  have d1 := D4.c1
  have d2 := D4.c2
  clear D4
  have hp7' := Lib.hid hp7.symm
  have h7s := hp7.symm
  clear hp7
  go_wp2_with (go_at_call 51; refine ((callsIn_wide (n := 3)).1 (rows_in Fence.wide _ trivial rfl _ _ _ _)).mono ?_; rintro e w' ⟨rfl, rfl⟩)
  clear d0 d1 d2
  obtain ⟨q, hq⟩ : ∃ q, q = p7 + 1 := ⟨_, rfl⟩
  obtain ⟨W5, hW5⟩ : ∃ x, x = (w3.alloc (.cells #[.int .i64 (K : Int), .int .i64 (C : Int), .slice au nu cu] 25)).alloc (.cells #[.int .i64 (R : Int), .int .i64 (C : Int), .slice a n k] 25) := ⟨_, rfl⟩
  have DB := Lib.hid (show B3 W5 q 25 (.int .i64 (R : Int)) (.int .i64 (C : Int)) (.slice a n k) by rw [hW5, hq]; exact b3_at (B3.new _ _ _ _ _) (by simp [h7s]))
  have Cb := Lib.hid (show B3 W5 p7 25 (.int .i64 (K : Int)) (.int .i64 (C : Int)) (.slice au nu cu) by rw [hW5]; exact b3_at (B3.new _ _ _ _ _) h7s.symm |>.alloc _)
  have Z5 := Lib.hid (show B3 W5 (h + 1 + 1) 25 (.int .i64 0) (.int .i64 0) (.slice none 0 0) by rw [hW5]; exact (Z3.out.alloc _).alloc _)
  have Y5 := Lib.hid (show Boxed W5 (h + 1 + 1 + 1) 4 (.bool false) by rw [hW5]; exact (Y3.out.alloc _).alloc _)
  have P5 := Lib.hid (show B3 W5 p6 25 (.int .i64 (R : Int)) (.int .i64 (K : Int)) (.slice none 0 0) by rw [hW5]; exact (P3.out.alloc _).alloc _)
  have U5 := Lib.hid (show OwnV W5 W2.heap.size (.slice au nu cu) Tl ys by rw [hW5]; exact (U3.out.alloc _).alloc _)
  have hb3 := (show h ≤ w3.heap.size by have := SP.out; have := S2.out; have := S3.out; omega)
  have B5 := Lib.hid (show Below h w W5 by rw [hW5]; exact (b23.alloc hb3 _).alloc (by simp; omega) _)
  have hsq : q < W5.heap.size := by rw [hW5, hq]; simp [h7s]
  have HQ := Lib.hid hq
  have H67 := Lib.hid (show p6 < p7 by have := S2.out; have := S3.out; omega)
  have LU7 := Lib.hid (show ∀ j, OnV (.slice au nu cu) ys j → W2.heap.size ≤ j ∧ j < p7 from fun j hj => by have := LU.out j hj; omega)
  rw [show p7 + 1 = q from hq.symm, ← hW5]
  clear hW5 hq h7s D3 Z3 Y3 P3 U3 LU b23 hb3 hb8
  refine (wpIn_wide (n := 3)).1 ?_
  refine wpIn_rangeFunc_ownG rfl (by omega) (gf := 84) (lb := #[.pointer (some ⟨q, 0, none⟩)]) rfl trivial (enters_of Try.func84 (by kernel_rfl) rfl)
    (rows_stops q R C n _ k (by omega) a hR hC HRC.out hk (by omega) W5 DB.out) (fun h k => KpM.trans h k) (KpM.putObj hsq) (Below.refl _ _) (fun _ => rfl)
    (fun pre W => (B3 W (h + 1 + 1) 25 (.int .i64 0) (.int .i64 0) (.slice none 0 0) ∧ Boxed W (h + 1 + 1 + 1) 4 (.bool false) ∧ B3 W p7 25 (.int .i64 (K : Int)) (.int .i64 (C : Int)) (.slice au nu cu) ∧ (∃ vo xs, B3 W p6 25 (.int .i64 (R : Int)) (.int .i64 (K : Int)) vo ∧ OwnV W (q + 1) vo (mvS L0 Tl C K (pre.map rix)) xs) ∧ (∃ ys, OwnV W W2.heap.size (.slice au nu cu) Tl ys ∧ ∀ j, OnV (.slice au nu cu) ys j → W2.heap.size ≤ j ∧ j < p7) ∧ (∀ x ∈ pre, fineV (prC innV L0 Tl C (rix x) K) = true) ∧ q < W.heap.size) ∧ Below h w W)
    (fun c pre W => (c = .ret ∧ B3 W (h + 1 + 1) 25 (.int .i64 0) (.int .i64 0) (.slice none 0 0) ∧ Boxed W (h + 1 + 1 + 1) 4 (.bool false) ∧ fineV (prM innV L0 Tl C K R) = false) ∧ Below h w W)
    (OwnFrom.and (Own.from (fun s A B row hs hg hr => ⟨b3_own _ _ _ _ _ s A B row hs.1 hg hr, boxed_own _ _ (fun _ : List (RowA R) => _) s A B row hs.2.1 hg hr, b3_own _ _ _ _ _ s A B row hs.2.2.1 hg hr, prod_own _ _ _ _ _ (fun s : List (RowA R) => mvS L0 Tl C K (s.map rix)) s A B row hs.2.2.2.1 hg hr, (by obtain ⟨ys, hy, hy2⟩ := hs.2.2.2.2.1; exact ⟨ys, hy.turn hg hr, hy2⟩), hs.2.2.2.2.2.1, Nat.lt_of_lt_of_le hs.2.2.2.2.2.2 hg.size⟩) _) (ownFrom_below (by rw [HH.out]; exact Nat.le_refl _) (by have := HQ.out; have := H67.out; have := SP.out; omega)))
    (fun c => OwnFrom.and (Own.from (fun s A B row hs hg hr => ⟨hs.1, b3_own _ _ _ _ _ s A B row hs.2.1 hg hr, boxed_own _ _ (fun _ : List (RowA R) => _) s A B row hs.2.2.1 hg hr, hs.2.2.2⟩) _) (ownFrom_below (by rw [HH.out]; exact Nat.le_refl _) (by have := HQ.out; have := H67.out; have := SP.out; omega)))
    ⟨⟨Z5.out, Y5.out, Cb.out, ⟨_, _, P5.out, OwnV.nil _ _⟩, ⟨ys, U5.out, LU7.out⟩, (fun x hx => by simp at hx), hsq⟩, B5.out⟩
    (fun y => { tmps := #[.agg #[.int .i64 (R : Int), .int .i64 (C : Int), .slice a n k], .agg #[.int .i64 (C : Int), .int .i64 (K : Int), .slice a' n' k'], .pointer (some ⟨h, 0, none⟩), .pointer (some ⟨h + 1, 0, none⟩), .pointer (some ⟨h + 1 + 1, 0, none⟩), .pointer (some ⟨h + 1 + 1 + 1, 0, none⟩), .pointer (some ⟨p6, 0, none⟩), .pointer (some ⟨p7, 0, none⟩), undef, rowV a C y.1, undef, undef, .pointer (some ⟨h, 1, none⟩), .int .i64 (C : Int), .pointer (some ⟨h + 1, 0, none⟩), .int .i64 (C : Int), .bool false, .bool false, .agg #[.int .i64 (R : Int), .int .i64 (C : Int), .slice a n k], .bool true, .bool false, .bool false, .bool false, .agg #[.int .i64 (C : Int), .int .i64 (K : Int), .slice a' n' k'], .bool true, .bool false, .bool false, undef, .pointer (some ⟨h, 0, none⟩), .int .i64 (R : Int), .pointer (some ⟨h + 1, 1, none⟩), .int .i64 (K : Int), .agg #[.int .i64 (R : Int), .int .i64 (K : Int), .slice none 0 0], .agg #[.int .i64 (C : Int), .int .i64 (K : Int), .slice a' n' k'], .agg #[.int .i64 (K : Int), .int .i64 (C : Int), .slice au nu cu], .agg #[.int .i64 (R : Int), .int .i64 (C : Int), .slice a n k], .func (.func 84) #[] #[.pointer (some ⟨q, 0, none⟩)], .int .i64 (y.1 : Int), rowV a C y.1, undef, undef, undef, undef, undef, undef, undef, undef, undef, undef, undef, undef, undef, undef, undef], defers := [] }) ?assign ?body ?done ?stop
  case assign =>
    intro l y W K' hK
    gi_wp2
    exact hK
  case body =>
    rintro l pre y W ⟨⟨hz, hy0, hcb, ⟨vo, xs, hp, hv⟩, ⟨ys, hu, hlu⟩, hall, hsz⟩, hB⟩ hpl
    have hmap : Hid ((pre ++ [y]).map rix = pre.map rix ++ [y.1]) := by unfold Hid; rw [List.map_append]; rfl
    have hlen := rowX_len HN.out HRC.out y.2
    have hrr := rats_row (R0.out.below (by rw [HH.out]; exact hB)) HN.out HRC.out y.2 hC
    have HEL := (show ∀ k (hk : k < (rowX L0 C y.1).length), okF ((rowX L0 C y.1)[k]'hk) = true by
      intro k hk
      have h1 : y.1 * C + k < L0.length := by have := row_in (C := C) y.2; rw [HN.out, HRC.out]; omega
      rw [rowX_at HN.out HRC.out y.2 (by omega) hk h1]
      exact HE0.out _ _)
    have HAP := (callsIn_wide (n := 0)).2 (impl_apply K C nu au cu Tl _ (rowX L0 C y.1) W hu.rats hrr hK hC hKC HTL.out HNU.out hlen HTE.out HEL)
    rw [apL_prC, show apR Tl C (rowX L0 C y.1) K = (if fineV (prC innV L0 Tl C y.1 K) then prC innV L0 Tl C y.1 K else []) by unfold apR; rw [apL_prC]] at HAP
    have HBAD := Lib.hid (fun hb => prM_bad (L := L0) (U := Tl) (C := C) (K := K) y.2 hb)
    have HSN := Lib.hid (mvS_snoc L0 Tl C K (pre.map rix) y.1)
    have HVL := Lib.hid (show (mvS L0 Tl C K (pre.map rix)).length ≤ 100000 by rw [mvS_len, List.length_map]; have := Nat.mul_le_mul (show pre.length ≤ 24 by omega) hK; omega)
    have HQL := Lib.hid (prC_len innV L0 Tl C y.1 K)
    obtain ⟨a2, k2, hrv, hk21, hk22⟩ := ratsAt_form hrr
    rw [hlen] at hrv
    rw [hrv] at HAP ⊢
    have HYI := Lib.hid (show rix y = y.1 from rfl)
    obtain ⟨Q, hQ⟩ : ∃ Q, Q = prC innV L0 Tl C y.1 K := ⟨_, rfl⟩
    obtain ⟨P, hP⟩ : ∃ P, P = mvS L0 Tl C K (pre.map rix) := ⟨_, rfl⟩
    rw [← hQ] at HAP HBAD HSN HQL
    rw [← hP] at HSN HVL hv
    have HFI := Lib.hid (show fineV Q = true → ∀ x ∈ pre ++ [y], fineV (prC innV L0 Tl C (rix x) K) = true from fun hb x hx => by
      rcases List.mem_append.1 hx with hx | hx
      · exact hall x hx
      · obtain rfl := List.mem_singleton.1 hx
        rw [HYI.out, ← hQ]; exact hb)
    have KZ := Lib.hid hz
    have KY := Lib.hid hy0
    have KC := Lib.hid hcb
    have KP := Lib.hid hp
    have KV := Lib.hid hv
    have KU := Lib.hid hu
    have KLU := Lib.hid hlu
    have KB := Lib.hid hB
    have KS := Lib.hid hsz
    have c0 := hcb.c0
    have c1 := hcb.c1
    have c2 := hcb.c2
    clear hz hy0 hcb hp hv hu hlu hB hsz hall hrr HEL hlen hQ hP hrv hk21 hk22 hpl HYI
    cases hq : fineV Q with
    | false =>
      rw [hq] at HAP
      have HF9 := Lib.hid (HBAD.out hq)
      clear hq
      gi_wp2_with (refine ⟨trivial, ?_⟩; gi_at_call 52; refine (HAP.inRound l).mono ?_; rintro e w2 ⟨x2, zs, rfl, o2, b2, _⟩; obtain ⟨a9, c9, rfl⟩ := o2.slice; have M1 := KZ.out.below b2; have M2 := KY.out.kept (grown_of_below b2 none) (fun e => by cases e); have m0 := M1.c0; have m1 := M1.c1; have m2 := M1.c2; have n0 := M1.f 0; have n1 := M1.f 1; have n2 := M1.f 2; have i0 := M2.cell; have i1 := M2.frozen)
      have M3 := (M1.set3 (.int .i64 0) (.int .i64 0) (.slice none 0 0)).far (q := h + 1 + 1 + 1) (j := 0) (by omega) (.bool false)
      have M4 := (boxed_keptK M2 (((kept_set _ (h + 1 + 1) 0 (.int .i64 0)).trans (kept_set _ (h + 1 + 1) 1 (.int .i64 0))).trans (kept_set _ (h + 1 + 1) 2 (.slice none 0 0))) (by omega)).set (.bool false)
      have hbm := (show h ≤ W.heap.size by have := KS.out; have := HQ.out; have := H67.out; have := SP.out; omega)
      exact ⟨((KeepsOthers.of_grownBy (grown_of_below b2 none) (fun j o e => by cases e)).trans ((((KeepsOthers.setCell _ _ _).trans (KeepsOthers.setCell _ _ _)).trans (KeepsOthers.setCell _ _ _)).trans (KeepsOthers.setCell _ _ _))).from _, ⟨rfl, M3, M4, HF9.out⟩, ((((KB.out.trans (b2.mono hbm)).setCell (p := ⟨h + 1 + 1, 0, none⟩) (by simp; omega) _).setCell (p := ⟨h + 1 + 1, 1, none⟩) (by simp; omega) _).setCell (p := ⟨h + 1 + 1, 2, none⟩) (by simp; omega) _).setCell (p := ⟨h + 1 + 1 + 1, 0, none⟩) (by simp; omega) _⟩
    | true =>
      rw [hq] at HAP
      have HF9 := Lib.hid (HFI.out hq)
      clear hq
      rw [if_pos rfl] at HAP
      have hbm := (show h ≤ W.heap.size by have := KS.out; have := HQ.out; have := H67.out; have := SP.out; omega)
      have HBM := Lib.hid hbm
      have L9 := Lib.hid KV.out.lt
      clear hbm
      gi_wp2_with (first
        | (refine ⟨trivial, ?_⟩; gi_at_call 52; refine (HAP.inRound l).mono ?_; rintro e w2 ⟨x2, zs, rfl, o2, b2, hx2⟩; obtain ⟨g9, rfl⟩ := hx2 rfl; have M1 := KP.out.below b2; have m2 := M1.c2; have n2 := M1.f 2; have hz2 := o2.lt; have HZ2 := Lib.hid hz2; have hb2s := b2.size; clear hz2)
        | (gi_at_builtin; refine append_ratsIn rfl _ _ rfl (q + 1) vo P xs rfl (KV.out.below b2) HVL.out (by have := KS.out; omega) g9 K K rfl Q zs (OwnV.base o2 (by have := KS.out; omega)) (by omega) (fun i hi j hj r r' h1 h2 => by have h3 := (L9.out r (.inr ⟨_, List.getElem_mem hi, h1⟩)).2; have h4 := (HZ2.out r' (.inr ⟨_, List.getElem_mem hj, h2⟩)).1; omega) (fun j hj r h2 h1 => by have h3 := (L9.out r (.inl h1)).2; have h4 := (HZ2.out r (.inr ⟨_, List.getElem_mem hj, h2⟩)).1; omega) ?_; intro v7 w7 o7 g7; have P7 := M1.grown (KV.out.below b2) (by decide) (by decide) g7; have r2 := P7.c2; have t2 := P7.f 2; obtain ⟨a7, c7, hv7⟩ := o7.slice; subst hv7; rw [show (P ++ Q).length = P.length + Q.length from List.length_append] at o7 ⊢))
      have hq9 := HQ.out
      have h679 := H67.out
      have hsp9 := SP.out
      have K7 := ((Kept.of_below (S := fun j => vo.ownBlock = some j ∨ j = p6) b2).trans ((Kept.of_grown g7).mono (fun j e => .inl e))).trans ((kept_set w7 p6 2 (.slice a7 (P.length + Q.length) c7)).mono (fun j e => .inr e))
      refine ⟨((KeepsOthers.of_grownBy (grown_of_below b2 none) (fun j o e => by cases e)).trans ((KeepsOthers.of_grownBy g7 (fun j o e ho => by
          obtain ⟨o', ho', hc'⟩ := (KV.out.below b2).isCells j (.inl e)
          rw [ho] at ho'; injection ho' with e1; subst e1; exact hc')).trans (KeepsOthers.setCell _ _ _))).from _, K7.block q KS.out (by rintro (e | e) <;> first | omega | (have := (L9.out _ (.inl e)).1; omega)),
        ⟨KZ.out.keptK K7 (by rintro (e | e) <;> first | omega | (have := (L9.out _ (.inl e)).1; omega)),
         boxed_keptK KY.out K7 (by rintro (e | e) <;> first | omega | (have := (L9.out _ (.inl e)).1; omega)),
         KC.out.keptK K7 (by rintro (e | e) <;> first | omega | (have := (L9.out _ (.inl e)).1; omega)),
         ⟨_, _, P7.set2 _, by rw [hmap.out, HSN.out]; exact o7.set_b3 P7 (by decide) (by decide) 2 _⟩,
         ⟨ys, KU.out.kept K7 (fun j hj => by
            have hjl := KLU.out j hj
            have hs2 := S2.out
            rintro (e | e)
            · have := (L9.out _ (.inl e)).1; omega
            · omega), KLU.out⟩, HF9.out, Nat.lt_of_lt_of_le KS.out K7.size⟩,
        ((KB.out.trans (b2.mono HBM.out)).grown g7 (by have := HBM.out; omega) (fun j e => by have := (L9.out j (.inl e)).1; omega)).setCell (p := ⟨p6, 2, none⟩) (by simp; omega) _⟩
  case done =>
    rintro D' ys' W hD hS ⟨⟨hz, hy0, hcb, ⟨vo, xs, hp, hv⟩, _, hall, hsz⟩, hB⟩ hK
    have hf := prM_fine hS hall
    rw [hS, mvS_all] at hv
    rw [hf] at HM1
    obtain rfl : mb = true := HM1.out
    obtain ⟨rfl, rfl, rfl⟩ := HM2.out rfl
    have KZ := Lib.hid hz
    have KY := Lib.hid hy0
    have KV := Lib.hid hv
    have KB := Lib.hid hB
    have HK := Lib.hid hK
    have HDD := Lib.hid hD
    have KS := Lib.hid hsz
    obtain ⟨a9, c9, rfl⟩ := hv.slice
    have p0 := hp.c0
    have p1 := hp.c1
    have p2 := hp.c2
    have z0 := hz.c0
    have z1 := hz.c1
    have z2 := hz.c2
    have x0 := hz.f 0
    have x1 := hz.f 1
    have x2 := hz.f 2
    have y0 := hy0.cell
    have y1 := hy0.frozen
    obtain ⟨N9, hN9⟩ : ∃ N9, N9 = (prM innV L0 Tl C K R).length := ⟨_, rfl⟩
    rw [← hN9] at p2 KV
    clear hS hz hy0 hcb hp hv hall hsz hB hK hD hf hN9
    go_wp2
    have hK' := ((((KeepsOthers.setCell W ⟨h + 1 + 1, 0, none⟩ (.int .i64 (R : Int))).trans (KeepsOthers.setCell _ ⟨h + 1 + 1, 1, none⟩ (.int .i64 (K : Int)))).trans (KeepsOthers.setCell _ ⟨h + 1 + 1, 2, none⟩ (.slice a9 N9 c9))).trans (KeepsOthers.setCell _ ⟨h + 1 + 1 + 1, 0, none⟩ (.bool true))).same D' _ HK.out rfl
    have D8 := b3_shut ((KZ.out.set3 (.int .i64 (R : Int)) (.int .i64 (K : Int)) (.slice a9 N9 c9)).far (q := h + 1 + 1 + 1) (j := 0) (by omega) (.bool true)) hK'
    have hc0 := D8.c0
    have hc1 := D8.c1
    have hc2 := D8.c2
    have e1 := boxed_shut ((boxed_keptK KY.out (((kept_set _ (h + 1 + 1) 0 (.int .i64 (R : Int))).trans (kept_set _ (h + 1 + 1) 1 (.int .i64 (K : Int)))).trans (kept_set _ (h + 1 + 1) 2 (.slice a9 N9 c9))) (by omega)).set (.bool true)) hK'
    have hq9 := HQ.out
    have h679 := H67.out
    have hsp9 := SP.out
    have hBl := (((KB.out.setCell (p := ⟨h + 1 + 1, 0, none⟩) (by simp; omega) (.int .i64 (R : Int))).setCell (p := ⟨h + 1 + 1, 1, none⟩) (by simp; omega) (.int .i64 (K : Int))).setCell (p := ⟨h + 1 + 1, 2, none⟩) (by simp; omega) (.slice a9 N9 c9)).setCell (p := ⟨h + 1 + 1 + 1, 0, none⟩) (by simp; omega) (.bool true)
    have V9 := ownV_shut ((KV.out.set3_b3 KZ.out (by decide) (by decide) (.int .i64 (R : Int)) (.int .i64 (K : Int)) (.slice a9 N9 c9)).kept (kept_set _ (h + 1 + 1 + 1) 0 (.bool true)) (fun j hj e => by have := (KV.out.lt j hj).1; omega)) hK'
    refine ⟨by simp, .inl ⟨_, _, rfl, run_takeDeferred hK', ?_⟩⟩
    refine ⟨.tuple #[.agg #[.int .i64 (R : Int), .int .i64 (K : Int), .slice a9 N9 c9], .bool true], ?_, ?_⟩
    · simp [results, Try.f14, go_sem, hc0, hc1, hc2, e1]
    · have B9 := below_shut hBl (by have := HDD.out; have := KS.out; omega : h ≤ D') (by have := hBl.size; rw [HH.out] at this; exact this)
      have V8 := V9.base (B' := h) (by omega)
      first | exact ⟨_, rfl, ⟨_, V8⟩, B9⟩ | exact ⟨_, _, rfl, V8, B9⟩
  case stop =>
    rintro D' c pre W hD _ ⟨⟨rfl, hz, hy0, hf⟩, hB⟩ hK
    rw [hf] at HM1
    obtain rfl : mb = false := HM1.out
    obtain ⟨rfl, rfl, rfl⟩ := HM3.out rfl
    have D8 := b3_shut hz hK
    have hc0 := D8.c0
    have hc1 := D8.c1
    have hc2 := D8.c2
    have e1 := boxed_shut hy0 hK
    have B9 := below_shut hB (by have := HQ.out; have := H67.out; have := SP.out; omega : h ≤ D') (by have := hB.size; rw [HH.out] at this; exact this)
    clear hf
    gi_wp2
    refine ⟨by simp, .inl ⟨_, _, rfl, run_takeDeferred hK, ?_⟩⟩
    refine ⟨.tuple #[.agg #[.int .i64 0, .int .i64 0, .slice none 0 0], .bool false], ?_, ?_⟩
    · simp [results, Try.f14, go_sem, hc0, hc1, hc2, e1]
    · first | exact ⟨_, rfl, ⟨_, OwnV.nil _ _⟩, B9⟩ | exact ⟨_, _, rfl, OwnV.nil _ _, B9⟩

end Go.Proofs.Ytojklmckjebplaa
