/- Pre2 SpecCopy. -/
import Derived.Test.YtlepgkkpopjgoaaGreatYSpecCore
import Derived.ArgAppend
namespace Go.Proofs.YtlepgkkpopjgoaaGreat
open Go.RowKit Go.WideShapes Go.ChangeShapes
set_option linter.unusedVariables false
set_option linter.unusedSimpArgs false
theorem append_empty_run {w : World} (T : TypeId) (hT : Tryz.prog.underlying T = some (.slice 3)) (ty : TypeId) (B c : Nat) (ax : Option Addr) (v : Value) (l : List Int) (hown : OwnI w B v l) : (Builtin.append_ #[T, T] ty #[v, .slice ax 0 c]).run Tryz.prog w = .ok v w := by
 obtain ⟨i0, hi, hz0, hz1, hz2⟩ := info_parts info_int
 rcases hown.2 with ⟨rfl, _⟩ | ⟨g, cap, cur, rfl, _, _, hnc, _⟩
 ·cases ax <;> simp [Builtin.append_, run_underlying hT, sizeOf, typeInfo, hi, Builtin.lenOf, Builtin.firstCells, loadCells, loadCellsFrom]
 ·cases ax <;> simp [Builtin.append_, run_underlying hT, sizeOf, typeInfo, hi, Builtin.lenOf, Builtin.firstCells, hnc, storeCells, loadCells, loadCellsFrom]
set_option maxRecDepth 100000 in
theorem step_append_fresh {ops : Array Oper} {o : Oper} {a : Act} {K : Act → World → Prop} {Q : Exit → Act → World → Prop} {E : Prop} {w : World} (hgd : o.guard = none) (s x : Operand) (T : TypeId) (hT : Tryz.prog.underlying T = some (.slice 3))
  (ho : o.op = .call { callee := .builtin .append, args := #[s, x], argTypes := #[T, T] })
  (g : Nat) (vx : Value) (l2 : List Int) (hs : a.eval s = .slice (some ⟨g, 0, none⟩) 0 0) (hown : OwnI w g (.slice (some ⟨g, 0, none⟩) 0 0) []) (hx : a.eval x = vx) (hr : RowOf iV w vx l2)
  (hn : l2.length ≤ 1099511627776)
  (h : ∀ v' w', OwnI w' g v' l2 → (∀ k, v'.ownBlock = some k → k = g ∨ w.heap.size ≤ k) → Below w.heap.size w w' → K (a.put o.dst v') w') :
  if Region.wanted o (yielded ops a.tmps) = true then Oper.wp Tryz.prog o a w K Q else E := by
 have hw : Region.wanted o (yielded ops a.tmps) = true := by simp [Region.wanted, hgd]
 rw [if_pos hw]
 obtain ⟨i0, hi, hz0, hz1, hz2⟩ := info_parts info_int
 obtain ⟨ax, c, rfl, hc, hm, hcell⟩ := hr
 cases l2 with
 | nil =>
  have hrun := append_empty_run (w := w) T hT o.type g c ax _ [] hown
  unfold Oper.wp
  simp only [List.length_nil] at hx
  simp [execOp, ho, resolve, invoke, builtin, hs, hx, hrun, Result.andThen]
  exact h _ w hown (fun k hk => .inl (by simpa [Value.ownBlock] using hk.symm)) (Below.refl _ _)
 | cons z r =>
  obtain ⟨b, o', e, _⟩ := hcell 0 (by simp)
  subst e
  obtain ⟨v', w', hrun, r1, r2⟩ := run_append_arg_grows (P := Tryz.prog) w T o.type 3 i0 (.int .i64 0) 1 8 hT hi hz0 hz1 hz2 rfl (by decide) ⟨g, 0, none⟩ 0 0 [] (by simp) (by simp) ⟨b, o', none⟩ (z :: r).length c ((z :: r).map iV) (by simp) (by
   intro j u hj
   obtain ⟨hjl, hje⟩ := List.getElem?_eq_some_iff.1 hj
   have hjl2 : j < (z :: r).length := by simpa using hjl
   obtain ⟨b2, o2, e, hx'⟩ := hcell j hjl2
   injection e with e
   injection e with e1 e2
   subst e1 e2
   rw [add_plain, hx', ← hje, List.getElem_map]) (by simp) (by unfold maxLen; omega) (by omega)
  simp only [List.length_cons] at hx hrun
  unfold Oper.wp
  simp [execOp, ho, resolve, invoke, builtin, hs, hx, hrun, Result.andThen]
  have hb : Below w.heap.size w w' := ⟨r2.os, r2.tape, r2.output, r2.size, fun i hi => r2.block i hi (by simp)⟩
  have ho2 : OwnI w' w.heap.size v' (z :: r) := by unfold OwnI; simpa using r1
  exact h v' w' (ho2.base (Nat.le_of_lt ((hown.lt g (by simp [Value.ownBlock])).2))) (fun k hk => .inr (ho2.lt k hk).1) hb
theorem size_drew (w : World) : w.drew.heap.size = w.heap.size := rfl
theorem lit_at (X : World) (g : Nat) (h : g = X.heap.size) : OwnI (X.alloc (.cells #[] 3)) g (.slice (some ⟨g, 0, none⟩) 0 0) [] := by
 subst h; exact OwnI.lit0 X
theorem lit_atd (X : World) (g : Nat) (h : g = X.heap.size) : OwnI (X.alloc (.cells #[] 3)).drew g (.slice (some ⟨g, 0, none⟩) 0 0) [] := lit_at X g h
theorem lit_atd2 (X : World) (o : Obj) (g : Nat) (h : g = X.heap.size) : OwnI ((X.alloc (.cells #[] 3)).alloc o).drew g (.slice (some ⟨g, 0, none⟩) 0 0) [] := (lit_at X g h).alloc o
theorem below_join {wk W w' : World} (hb : Below W.heap.size W w') (h : Below wk.heap.size wk W) : Below wk.heap.size wk w' := h.trans (hb.mono h.size)
end Go.Proofs.YtlepgkkpopjgoaaGreat
namespace Go.Proofs.YtlepgkkpopjgoaaGreat
open Go.RowKit Go.WideShapes Go.ChangeShapes
set_option linter.unusedVariables false
set_option linter.unusedSimpArgs false
set_option maxRecDepth 100000 in
set_option maxHeartbeats 4000000 in
theorem spec_neg (b0 : Bool) (v0 : Value) (x : Nat) (d0 : Value) (d : Nat) (w : World) (h0 : RowR w v0 (limI x) d0 (limI d)) (hx : x < pw 24) (hd : d < pw 24) :
  Calls Tryz.prog 95 #[.agg #[.bool b0, v0, d0]] w fun r w' => ∃ v dd, r = .returned (.agg #[.bool (!b0 && decide (0 < x)), v, dd]) ∧ OwnR w' w.heap.size v (limI x) dd (limI d) ∧ Below w.heap.size w w' := by
 have PX := Lib.hid (Nat.lt_trans hx (pw_lt (by omega : 24 < 60)))
 have LN_b : (limI d).length ≤ 1099511627776 := by have := (nlen_le_iff _ _).2 hd; rw [limI_length]; omega
 clear hx hd
 have RA_x := Lib.hid h0.1
 have RA_d := Lib.hid h0.2
 obtain ⟨⟨a0, c0, rfl, z1, z2, z3⟩, ⟨e0, f0, rfl, z4, z5, z6⟩⟩ := h0
 clear z1 z2 z3 z4 z5 z6
 have L_x := Lib.hid (limI_length x)
 rw [limI_length] at RA_x
 try rw [limI_length x]
 obtain ⟨nx, hnx⟩ : ∃ n, nlen x = n := ⟨_, rfl⟩
 rw [hnx] at RA_x L_x
 try rw [hnx]
 have N_x := Lib.hid hnx
 clear hnx
 have L_d := Lib.hid (limI_length d)
 rw [limI_length] at RA_d
 try rw [limI_length d]
 obtain ⟨nd, hnd⟩ : ∃ n, nlen d = n := ⟨_, rfl⟩
 rw [hnd] at RA_d L_d
 try rw [hnd]
 have N_d := Lib.hid hnd
 clear hnd
 go_enter Tryz.func95, Tryz.ntmps95
 go_wp2_with fail
 obtain ⟨W0, hW0⟩ : ∃ x, x = ((w.alloc (.cells #[.bool b0, .slice a0 nx c0, .slice e0 nd f0] 34)).alloc (.cells #[.bool false, .slice none 0 0, .slice none 0 0] 34)) := ⟨_, rfl⟩
 have B := Lib.hid (show Below w.heap.size w W0 by rw [hW0]; exact (((Below.refl _ _).alloc (Nat.le_refl _) _).alloc (by simp) _))
 have D_x := Lib.hid (rx_at (show Rx W0 _ 34 (b0) (.slice a0 nx c0) (.slice e0 nd f0) by rw [hW0]; exact (Rx.new _ _ _ _ _).alloc _) (show w.heap.size = _ by simp))
 have D_r := Lib.hid (rx_at (show Rx W0 _ 34 (false) (.slice none 0 0) (.slice none 0 0) by rw [hW0]; exact Rx.new _ _ _ _ _) (show (w.heap.size + 1) = _ by simp))
 have SZ := Lib.hid (show W0.heap.size = w.heap.size + 1 + 1 by rw [hW0]; simp)
 rw [← hW0]
 clear hW0
 have BB := Lib.hid (Below.refl W0.heap.size W0)
 have K_a := Lib.hid (fun (W : World) (hW : Below W0.heap.size W0 W) => pre_own (R := fun v => .agg #[.bool (!b0 && decide (0 < x)), v]) (spec_makeN (!b0) _ x W (rowOf_below (rowOf_below RA_x.out B.out) hW) PX.out) hW)
 have K_b := Lib.hid (fun (W : World) (hW : Below W0.heap.size W0 W) => rowOf_below (rowOf_below RA_d.out B.out) hW)
 have c0_x := (D_x.out.below BB.out).c0
 have c1_x := (D_x.out.below BB.out).c1
 have c2_x := (D_x.out.below BB.out).c2
 have HS := Lib.hid (show ∀ W : World, Below W0.heap.size W0 W → (W.cell? ⟨w.heap.size, 0, none⟩ = some (.bool b0) ∧ W.cell? ⟨w.heap.size, 1, none⟩ = some (.slice a0 nx c0) ∧ W.cell? ⟨w.heap.size, 2, none⟩ = some (.slice e0 nd f0)) from fun W hW => ⟨(hW.cell (p := ⟨w.heap.size, 0, none⟩) (D_x.out.below BB.out).lt).trans c0_x, (hW.cell (p := ⟨w.heap.size, 1, none⟩) (D_x.out.below BB.out).lt).trans c1_x, (hW.cell (p := ⟨w.heap.size, 2, none⟩) (D_x.out.below BB.out).lt).trans c2_x⟩)
 have lt_x := (D_x.out.below BB.out).lt
 have c0_r := (D_r.out.below BB.out).c0
 have c1_r := (D_r.out.below BB.out).c1
 have c2_r := (D_r.out.below BB.out).c2
 have f0_r := (D_r.out.below BB.out).f 0
 have f1_r := (D_r.out.below BB.out).f 1
 have f2_r := (D_r.out.below BB.out).f 2
 have HF := Lib.hid (show ∀ W : World, Below W0.heap.size W0 W → (W.cell? ⟨(w.heap.size + 1), 0, none⟩ = some (.bool false) ∧ W.cell? ⟨(w.heap.size + 1), 1, none⟩ = some (.slice none 0 0) ∧ W.cell? ⟨(w.heap.size + 1), 2, none⟩ = some (.slice none 0 0) ∧ W.frozen? ⟨(w.heap.size + 1), 0, none⟩ = false ∧ W.frozen? ⟨(w.heap.size + 1), 1, none⟩ = false ∧ W.frozen? ⟨(w.heap.size + 1), 2, none⟩ = false) from fun W hW => ⟨(hW.cell (p := ⟨(w.heap.size + 1), 0, none⟩) (D_r.out.below BB.out).lt).trans c0_r, (hW.cell (p := ⟨(w.heap.size + 1), 1, none⟩) (D_r.out.below BB.out).lt).trans c1_r, (hW.cell (p := ⟨(w.heap.size + 1), 2, none⟩) (D_r.out.below BB.out).lt).trans c2_r, (hW.frozen (p := ⟨(w.heap.size + 1), 0, none⟩) (D_r.out.below BB.out).lt).trans f0_r, (hW.frozen (p := ⟨(w.heap.size + 1), 1, none⟩) (D_r.out.below BB.out).lt).trans f1_r, (hW.frozen (p := ⟨(w.heap.size + 1), 2, none⟩) (D_r.out.below BB.out).lt).trans f2_r⟩)
 go_region_held3 (fun w' => w'.cell? ⟨w.heap.size, 0, none⟩ = some (.bool b0) ∧ w'.cell? ⟨w.heap.size, 1, none⟩ = some (.slice a0 nx c0) ∧ w'.cell? ⟨w.heap.size, 2, none⟩ = some (.slice e0 nd f0)) (first | exact HS.out _ (by first | with_reducible exact Below.refl _ _ | with_reducible exact (Below.refl _ _).drew | with_reducible exact bb_a | with_reducible exact bb_b | with_reducible exact (Below.refl _ _).alloc (Nat.le_refl _) _ | with_reducible exact ((Below.refl _ _).alloc (Nat.le_refl _) _).drew | with_reducible exact bb_a.alloc bb_a.size _ | with_reducible exact bb_b.alloc bb_b.size _ | fail) | exact ⟨(cell_far3 (show w.heap.size ≠ (w.heap.size + 1) from by omega) _ _ _).trans ((HS.out _ (by first | with_reducible exact Below.refl _ _ | with_reducible exact (Below.refl _ _).drew | with_reducible exact bb_a | with_reducible exact bb_b | with_reducible exact (Below.refl _ _).alloc (Nat.le_refl _) _ | with_reducible exact ((Below.refl _ _).alloc (Nat.le_refl _) _).drew | with_reducible exact bb_a.alloc bb_a.size _ | with_reducible exact bb_b.alloc bb_b.size _ | fail)).1), (cell_far3 (show w.heap.size ≠ (w.heap.size + 1) from by omega) _ _ _).trans ((HS.out _ (by first | with_reducible exact Below.refl _ _ | with_reducible exact (Below.refl _ _).drew | with_reducible exact bb_a | with_reducible exact bb_b | with_reducible exact (Below.refl _ _).alloc (Nat.le_refl _) _ | with_reducible exact ((Below.refl _ _).alloc (Nat.le_refl _) _).drew | with_reducible exact bb_a.alloc bb_a.size _ | with_reducible exact bb_b.alloc bb_b.size _ | fail)).2.1), (cell_far3 (show w.heap.size ≠ (w.heap.size + 1) from by omega) _ _ _).trans ((HS.out _ (by first | with_reducible exact Below.refl _ _ | with_reducible exact (Below.refl _ _).drew | with_reducible exact bb_a | with_reducible exact bb_b | with_reducible exact (Below.refl _ _).alloc (Nat.le_refl _) _ | with_reducible exact ((Below.refl _ _).alloc (Nat.le_refl _) _).drew | with_reducible exact bb_a.alloc bb_a.size _ | with_reducible exact bb_b.alloc bb_b.size _ | fail)).2.2)⟩)
  (first
   | (refine step_append_fresh rfl _ _ 30 Tryz.underlying30 rfl _ _ (limI d) rfl (by first | exact lit_at _ _ (by first | rfl | (simp only [World.size_alloc]; done) | fail) | exact lit_atd _ _ (by first | rfl | (simp only [World.size_alloc]; done) | fail) | exact (lit_at _ _ (by first | rfl | (simp only [World.size_alloc]; done) | fail)).alloc _ | exact lit_atd2 _ _ _ (by first | rfl | (simp only [World.size_alloc]; done) | fail) | exact OwnI.below (lit_at _ _ (by first | rfl | (simp only [World.size_alloc]; done) | fail)) bw_a | exact OwnI.below (lit_atd _ _ (by first | rfl | (simp only [World.size_alloc]; done) | fail)) bw_a | exact OwnI.below ((lit_at _ _ (by first | rfl | (simp only [World.size_alloc]; done) | fail)).alloc _) bw_a | exact OwnI.below (lit_atd2 _ _ _ (by first | rfl | (simp only [World.size_alloc]; done) | fail)) bw_a | exact (OwnI.below (lit_at _ _ (by first | rfl | (simp only [World.size_alloc]; done) | fail)) bw_a).alloc _ | exact OwnI.below (lit_at _ _ (by first | rfl | (simp only [World.size_alloc]; done) | fail)) bw_b | exact OwnI.below (lit_atd _ _ (by first | rfl | (simp only [World.size_alloc]; done) | fail)) bw_b | exact OwnI.below ((lit_at _ _ (by first | rfl | (simp only [World.size_alloc]; done) | fail)).alloc _) bw_b | exact OwnI.below (lit_atd2 _ _ _ (by first | rfl | (simp only [World.size_alloc]; done) | fail)) bw_b | exact (OwnI.below (lit_at _ _ (by first | rfl | (simp only [World.size_alloc]; done) | fail)) bw_b).alloc _ | fail) rfl (K_b.out _ (by first | with_reducible exact Below.refl _ _ | with_reducible exact (Below.refl _ _).drew | with_reducible exact bb_a | with_reducible exact bb_b | with_reducible exact (Below.refl _ _).alloc (Nat.le_refl _) _ | with_reducible exact ((Below.refl _ _).alloc (Nat.le_refl _) _).drew | with_reducible exact bb_a.alloc bb_a.size _ | with_reducible exact bb_b.alloc bb_b.size _ | fail)) LN_b ?_; intro v_b w_b o_b fr_b bw_b; have bb_b := below_join (wk := W0) bw_b (by first | with_reducible exact Below.refl _ _ | with_reducible exact (Below.refl _ _).drew | with_reducible exact bb_a | with_reducible exact bb_b | with_reducible exact (Below.refl _ _).alloc (Nat.le_refl _) _ | with_reducible exact ((Below.refl _ _).alloc (Nat.le_refl _) _).drew | with_reducible exact bb_a.alloc bb_a.size _ | with_reducible exact bb_b.alloc bb_b.size _ | fail); have zz_b := bb_b.size; have zy_b := bw_b.size; have lt9_b := o_b.lt; (try simp only [World.size_alloc, size_drew] at fr_b zy_b lt9_b); (try (have ap_a_b : ApartR _ _ := fun g1 g2 e1 e2 e3 => by (have h1 := lt9_a g1 e1; have h2 := lo_a g1 e1; have h3 := fr_b g2 e2; omega))); replace o_b : OwnI w_b W0.heap.size v_b (limI d) := o_b.base (by first | omega | (simp only [World.size_alloc, size_drew]; omega)); obtain ⟨a_b, c_b, rfl⟩ := o_b.slice; (try first | with_reducible (have o_a := o_a.below bw_b) | with_reducible (have o_a := (o_a.alloc _).below bw_b)); obtain ⟨s0, s1, s2, t0, t1, t2⟩ := HF.out _ bb_b)
   | (go_at_call 135; refine (K_a.out _ (by first | with_reducible exact Below.refl _ _ | with_reducible exact (Below.refl _ _).drew | with_reducible exact bb_a | with_reducible exact bb_b | with_reducible exact (Below.refl _ _).alloc (Nat.le_refl _) _ | with_reducible exact ((Below.refl _ _).alloc (Nat.le_refl _) _).drew | with_reducible exact bb_a.alloc bb_a.size _ | with_reducible exact bb_b.alloc bb_b.size _ | fail)).mono ?_; rintro e w_a ⟨v_a, rfl, o_a, lo_a, bw_a, bb_a⟩; have zz_a := bb_a.size; have zy_a := bw_a.size; have lt9_a := o_a.lt; (try simp only [World.size_alloc, size_drew] at lo_a zy_a lt9_a); obtain ⟨a_a, c_a, rfl⟩ := o_a.slice; (try with_reducible (have ap_b_a := apart_lo o_b lo_a)); (try first | with_reducible (have o_b := o_b.below bw_a) | with_reducible (have o_b := (o_b.alloc _).below bw_a)); obtain ⟨s0, s1, s2, t0, t1, t2⟩ := HF.out _ bb_a))
 all_goals first
  | (have oo : OwnR w_a W0.heap.size (.slice a_a (limI x).length c_a) (limI x) (.slice a_b (limI d).length c_b) (limI d) := ⟨o_a, o_b, by first | exact ap_a_b | exact ap_b_a.symm⟩; have D9 := D_r.out.below bb_a; obtain ⟨e1, e2⟩ := rat_end (b' := (!b0 && decide (0 < x))) (B.out.trans (bb_a.mono B.out.size)) D9 oo (by decide) (by have := SZ.out; omega) (by omega) (.slice a_a (limI x).length c_a) (.slice a_b (limI d).length c_b); have D8 := Rx.set3 (b' := (!b0 && decide (0 < x))) (v' := .slice a_a (limI x).length c_a) (d' := .slice a_b (limI d).length c_b) D9; have hc0 := D8.c0; have hc1 := D8.c1; have hc2 := D8.c2; go_wp2; exact bodyPost_ret (v := .agg #[.bool (!b0 && decide (0 < x)), .slice a_a (limI x).length c_a, .slice a_b (limI d).length c_b]) (by simp [results, Tryz.results95, go_sem, hc0, hc1, hc2]) rfl ⟨_, _, rfl, e1, e2⟩)
  | (have oo : OwnR w_b W0.heap.size (.slice a_a (limI x).length c_a) (limI x) (.slice a_b (limI d).length c_b) (limI d) := ⟨o_a, o_b, by first | exact ap_a_b | exact ap_b_a.symm⟩; have D9 := D_r.out.below bb_b; obtain ⟨e1, e2⟩ := rat_end (b' := (!b0 && decide (0 < x))) (B.out.trans (bb_b.mono B.out.size)) D9 oo (by decide) (by have := SZ.out; omega) (by omega) (.slice a_a (limI x).length c_a) (.slice a_b (limI d).length c_b); have D8 := Rx.set3 (b' := (!b0 && decide (0 < x))) (v' := .slice a_a (limI x).length c_a) (d' := .slice a_b (limI d).length c_b) D9; have hc0 := D8.c0; have hc1 := D8.c1; have hc2 := D8.c2; go_wp2; exact bodyPost_ret (v := .agg #[.bool (!b0 && decide (0 < x)), .slice a_a (limI x).length c_a, .slice a_b (limI d).length c_b]) (by simp [results, Tryz.results95, go_sem, hc0, hc1, hc2]) rfl ⟨_, _, rfl, e1, e2⟩)
set_option maxRecDepth 100000 in
set_option maxHeartbeats 4000000 in
theorem spec_copy (b0 : Bool) (v0 : Value) (x : Nat) (d0 : Value) (d : Nat) (w : World) (h0 : RowR w v0 (limI x) d0 (limI d)) (hx : x < pw 24) (hd : d < pw 24) :
  Calls Tryz.prog 154 #[.agg #[.bool b0, v0, d0]] w fun r w' => ∃ v dd, r = .returned (.agg #[.bool b0, v, dd]) ∧ OwnR w' w.heap.size v (limI x) dd (limI d) ∧ Below w.heap.size w w' := by
 have LN_a : (limI x).length ≤ 1099511627776 := by have := (nlen_le_iff _ _).2 hx; rw [limI_length]; omega
 have LN_b : (limI d).length ≤ 1099511627776 := by have := (nlen_le_iff _ _).2 hd; rw [limI_length]; omega
 clear hx hd
 have RA_x := Lib.hid h0.1
 have RA_d := Lib.hid h0.2
 obtain ⟨⟨a0, c0, rfl, z1, z2, z3⟩, ⟨e0, f0, rfl, z4, z5, z6⟩⟩ := h0
 clear z1 z2 z3 z4 z5 z6
 have L_x := Lib.hid (limI_length x)
 rw [limI_length] at RA_x
 try rw [limI_length x]
 obtain ⟨nx, hnx⟩ : ∃ n, nlen x = n := ⟨_, rfl⟩
 rw [hnx] at RA_x L_x
 try rw [hnx]
 have N_x := Lib.hid hnx
 clear hnx
 have L_d := Lib.hid (limI_length d)
 rw [limI_length] at RA_d
 try rw [limI_length d]
 obtain ⟨nd, hnd⟩ : ∃ n, nlen d = n := ⟨_, rfl⟩
 rw [hnd] at RA_d L_d
 try rw [hnd]
 have N_d := Lib.hid hnd
 clear hnd
 go_enter Tryz.func154, Tryz.ntmps154
 go_wp2_with fail
 obtain ⟨W0, hW0⟩ : ∃ x, x = ((w.alloc (.cells #[.bool b0, .slice a0 nx c0, .slice e0 nd f0] 34)).alloc (.cells #[.bool false, .slice none 0 0, .slice none 0 0] 34)) := ⟨_, rfl⟩
 have B := Lib.hid (show Below w.heap.size w W0 by rw [hW0]; exact (((Below.refl _ _).alloc (Nat.le_refl _) _).alloc (by simp) _))
 have D_x := Lib.hid (rx_at (show Rx W0 _ 34 (b0) (.slice a0 nx c0) (.slice e0 nd f0) by rw [hW0]; exact (Rx.new _ _ _ _ _).alloc _) (show w.heap.size = _ by simp))
 have D_r := Lib.hid (rx_at (show Rx W0 _ 34 (false) (.slice none 0 0) (.slice none 0 0) by rw [hW0]; exact Rx.new _ _ _ _ _) (show (w.heap.size + 1) = _ by simp))
 have SZ := Lib.hid (show W0.heap.size = w.heap.size + 1 + 1 by rw [hW0]; simp)
 rw [← hW0]
 clear hW0
 have BB := Lib.hid (Below.refl W0.heap.size W0)
 have K_a := Lib.hid (fun (W : World) (hW : Below W0.heap.size W0 W) => rowOf_below (rowOf_below RA_x.out B.out) hW)
 have K_b := Lib.hid (fun (W : World) (hW : Below W0.heap.size W0 W) => rowOf_below (rowOf_below RA_d.out B.out) hW)
 have c0_x := (D_x.out.below BB.out).c0
 have c1_x := (D_x.out.below BB.out).c1
 have c2_x := (D_x.out.below BB.out).c2
 have HS := Lib.hid (show ∀ W : World, Below W0.heap.size W0 W → (W.cell? ⟨w.heap.size, 0, none⟩ = some (.bool b0) ∧ W.cell? ⟨w.heap.size, 1, none⟩ = some (.slice a0 nx c0) ∧ W.cell? ⟨w.heap.size, 2, none⟩ = some (.slice e0 nd f0)) from fun W hW => ⟨(hW.cell (p := ⟨w.heap.size, 0, none⟩) (D_x.out.below BB.out).lt).trans c0_x, (hW.cell (p := ⟨w.heap.size, 1, none⟩) (D_x.out.below BB.out).lt).trans c1_x, (hW.cell (p := ⟨w.heap.size, 2, none⟩) (D_x.out.below BB.out).lt).trans c2_x⟩)
 have lt_x := (D_x.out.below BB.out).lt
 have c0_r := (D_r.out.below BB.out).c0
 have c1_r := (D_r.out.below BB.out).c1
 have c2_r := (D_r.out.below BB.out).c2
 have f0_r := (D_r.out.below BB.out).f 0
 have f1_r := (D_r.out.below BB.out).f 1
 have f2_r := (D_r.out.below BB.out).f 2
 have HF := Lib.hid (show ∀ W : World, Below W0.heap.size W0 W → (W.cell? ⟨(w.heap.size + 1), 0, none⟩ = some (.bool false) ∧ W.cell? ⟨(w.heap.size + 1), 1, none⟩ = some (.slice none 0 0) ∧ W.cell? ⟨(w.heap.size + 1), 2, none⟩ = some (.slice none 0 0) ∧ W.frozen? ⟨(w.heap.size + 1), 0, none⟩ = false ∧ W.frozen? ⟨(w.heap.size + 1), 1, none⟩ = false ∧ W.frozen? ⟨(w.heap.size + 1), 2, none⟩ = false) from fun W hW => ⟨(hW.cell (p := ⟨(w.heap.size + 1), 0, none⟩) (D_r.out.below BB.out).lt).trans c0_r, (hW.cell (p := ⟨(w.heap.size + 1), 1, none⟩) (D_r.out.below BB.out).lt).trans c1_r, (hW.cell (p := ⟨(w.heap.size + 1), 2, none⟩) (D_r.out.below BB.out).lt).trans c2_r, (hW.frozen (p := ⟨(w.heap.size + 1), 0, none⟩) (D_r.out.below BB.out).lt).trans f0_r, (hW.frozen (p := ⟨(w.heap.size + 1), 1, none⟩) (D_r.out.below BB.out).lt).trans f1_r, (hW.frozen (p := ⟨(w.heap.size + 1), 2, none⟩) (D_r.out.below BB.out).lt).trans f2_r⟩)
 go_region_held3 (fun w' => w'.cell? ⟨w.heap.size, 0, none⟩ = some (.bool b0) ∧ w'.cell? ⟨w.heap.size, 1, none⟩ = some (.slice a0 nx c0) ∧ w'.cell? ⟨w.heap.size, 2, none⟩ = some (.slice e0 nd f0)) (first | exact HS.out _ (by first | with_reducible exact Below.refl _ _ | with_reducible exact (Below.refl _ _).drew | with_reducible exact bb_a | with_reducible exact bb_b | with_reducible exact (Below.refl _ _).alloc (Nat.le_refl _) _ | with_reducible exact ((Below.refl _ _).alloc (Nat.le_refl _) _).drew | with_reducible exact bb_a.alloc bb_a.size _ | with_reducible exact bb_b.alloc bb_b.size _ | with_reducible exact ((Below.refl _ _).alloc (Nat.le_refl _) _).alloc (by simp) _ | with_reducible exact (((Below.refl _ _).alloc (Nat.le_refl _) _).alloc (by simp) _).drew | with_reducible exact (bb_a.alloc bb_a.size _).alloc (Nat.le_trans bb_a.size (by simp)) _ | with_reducible exact (bb_b.alloc bb_b.size _).alloc (Nat.le_trans bb_b.size (by simp)) _ | fail) | exact ⟨(cell_far3 (show w.heap.size ≠ (w.heap.size + 1) from by omega) _ _ _).trans ((HS.out _ (by first | with_reducible exact Below.refl _ _ | with_reducible exact (Below.refl _ _).drew | with_reducible exact bb_a | with_reducible exact bb_b | with_reducible exact (Below.refl _ _).alloc (Nat.le_refl _) _ | with_reducible exact ((Below.refl _ _).alloc (Nat.le_refl _) _).drew | with_reducible exact bb_a.alloc bb_a.size _ | with_reducible exact bb_b.alloc bb_b.size _ | with_reducible exact ((Below.refl _ _).alloc (Nat.le_refl _) _).alloc (by simp) _ | with_reducible exact (((Below.refl _ _).alloc (Nat.le_refl _) _).alloc (by simp) _).drew | with_reducible exact (bb_a.alloc bb_a.size _).alloc (Nat.le_trans bb_a.size (by simp)) _ | with_reducible exact (bb_b.alloc bb_b.size _).alloc (Nat.le_trans bb_b.size (by simp)) _ | fail)).1), (cell_far3 (show w.heap.size ≠ (w.heap.size + 1) from by omega) _ _ _).trans ((HS.out _ (by first | with_reducible exact Below.refl _ _ | with_reducible exact (Below.refl _ _).drew | with_reducible exact bb_a | with_reducible exact bb_b | with_reducible exact (Below.refl _ _).alloc (Nat.le_refl _) _ | with_reducible exact ((Below.refl _ _).alloc (Nat.le_refl _) _).drew | with_reducible exact bb_a.alloc bb_a.size _ | with_reducible exact bb_b.alloc bb_b.size _ | with_reducible exact ((Below.refl _ _).alloc (Nat.le_refl _) _).alloc (by simp) _ | with_reducible exact (((Below.refl _ _).alloc (Nat.le_refl _) _).alloc (by simp) _).drew | with_reducible exact (bb_a.alloc bb_a.size _).alloc (Nat.le_trans bb_a.size (by simp)) _ | with_reducible exact (bb_b.alloc bb_b.size _).alloc (Nat.le_trans bb_b.size (by simp)) _ | fail)).2.1), (cell_far3 (show w.heap.size ≠ (w.heap.size + 1) from by omega) _ _ _).trans ((HS.out _ (by first | with_reducible exact Below.refl _ _ | with_reducible exact (Below.refl _ _).drew | with_reducible exact bb_a | with_reducible exact bb_b | with_reducible exact (Below.refl _ _).alloc (Nat.le_refl _) _ | with_reducible exact ((Below.refl _ _).alloc (Nat.le_refl _) _).drew | with_reducible exact bb_a.alloc bb_a.size _ | with_reducible exact bb_b.alloc bb_b.size _ | with_reducible exact ((Below.refl _ _).alloc (Nat.le_refl _) _).alloc (by simp) _ | with_reducible exact (((Below.refl _ _).alloc (Nat.le_refl _) _).alloc (by simp) _).drew | with_reducible exact (bb_a.alloc bb_a.size _).alloc (Nat.le_trans bb_a.size (by simp)) _ | with_reducible exact (bb_b.alloc bb_b.size _).alloc (Nat.le_trans bb_b.size (by simp)) _ | fail)).2.2)⟩)
  (first
   | (refine step_append_fresh rfl _ _ 30 Tryz.underlying30 rfl _ _ (limI d) rfl (by first | exact lit_at _ _ (by first | rfl | (simp only [World.size_alloc]; done) | fail) | exact lit_atd _ _ (by first | rfl | (simp only [World.size_alloc]; done) | fail) | exact (lit_at _ _ (by first | rfl | (simp only [World.size_alloc]; done) | fail)).alloc _ | exact lit_atd2 _ _ _ (by first | rfl | (simp only [World.size_alloc]; done) | fail) | exact OwnI.below (lit_at _ _ (by first | rfl | (simp only [World.size_alloc]; done) | fail)) bw_a | exact OwnI.below (lit_atd _ _ (by first | rfl | (simp only [World.size_alloc]; done) | fail)) bw_a | exact OwnI.below ((lit_at _ _ (by first | rfl | (simp only [World.size_alloc]; done) | fail)).alloc _) bw_a | exact OwnI.below (lit_atd2 _ _ _ (by first | rfl | (simp only [World.size_alloc]; done) | fail)) bw_a | exact (OwnI.below (lit_at _ _ (by first | rfl | (simp only [World.size_alloc]; done) | fail)) bw_a).alloc _ | exact OwnI.below (lit_at _ _ (by first | rfl | (simp only [World.size_alloc]; done) | fail)) bw_b | exact OwnI.below (lit_atd _ _ (by first | rfl | (simp only [World.size_alloc]; done) | fail)) bw_b | exact OwnI.below ((lit_at _ _ (by first | rfl | (simp only [World.size_alloc]; done) | fail)).alloc _) bw_b | exact OwnI.below (lit_atd2 _ _ _ (by first | rfl | (simp only [World.size_alloc]; done) | fail)) bw_b | exact (OwnI.below (lit_at _ _ (by first | rfl | (simp only [World.size_alloc]; done) | fail)) bw_b).alloc _ | fail) rfl (K_b.out _ (by first | with_reducible exact Below.refl _ _ | with_reducible exact (Below.refl _ _).drew | with_reducible exact bb_a | with_reducible exact bb_b | with_reducible exact (Below.refl _ _).alloc (Nat.le_refl _) _ | with_reducible exact ((Below.refl _ _).alloc (Nat.le_refl _) _).drew | with_reducible exact bb_a.alloc bb_a.size _ | with_reducible exact bb_b.alloc bb_b.size _ | with_reducible exact ((Below.refl _ _).alloc (Nat.le_refl _) _).alloc (by simp) _ | with_reducible exact (((Below.refl _ _).alloc (Nat.le_refl _) _).alloc (by simp) _).drew | with_reducible exact (bb_a.alloc bb_a.size _).alloc (Nat.le_trans bb_a.size (by simp)) _ | with_reducible exact (bb_b.alloc bb_b.size _).alloc (Nat.le_trans bb_b.size (by simp)) _ | fail)) LN_b ?_; intro v_b w_b o_b fr_b bw_b; have bb_b := below_join (wk := W0) bw_b (by first | with_reducible exact Below.refl _ _ | with_reducible exact (Below.refl _ _).drew | with_reducible exact bb_a | with_reducible exact bb_b | with_reducible exact (Below.refl _ _).alloc (Nat.le_refl _) _ | with_reducible exact ((Below.refl _ _).alloc (Nat.le_refl _) _).drew | with_reducible exact bb_a.alloc bb_a.size _ | with_reducible exact bb_b.alloc bb_b.size _ | with_reducible exact ((Below.refl _ _).alloc (Nat.le_refl _) _).alloc (by simp) _ | with_reducible exact (((Below.refl _ _).alloc (Nat.le_refl _) _).alloc (by simp) _).drew | with_reducible exact (bb_a.alloc bb_a.size _).alloc (Nat.le_trans bb_a.size (by simp)) _ | with_reducible exact (bb_b.alloc bb_b.size _).alloc (Nat.le_trans bb_b.size (by simp)) _ | fail); have zz_b := bb_b.size; have zy_b := bw_b.size; have lt9_b := o_b.lt; (try simp only [World.size_alloc, size_drew] at fr_b zy_b lt9_b); (try (have ap_a_b : ApartR _ _ := fun g1 g2 e1 e2 e3 => by (have h1 := lt9_a g1 e1; have h2 := fr_a g1 e1; have h3 := fr_b g2 e2; omega))); replace o_b : OwnI w_b W0.heap.size v_b (limI d) := o_b.base (by first | omega | (simp only [World.size_alloc, size_drew]; omega)); obtain ⟨a_b, c_b, rfl⟩ := o_b.slice; (try first | with_reducible (have o_a := o_a.below bw_b) | with_reducible (have o_a := (o_a.alloc _).below bw_b) | with_reducible (have o_a := ((o_a.alloc _).alloc _).below bw_b)); obtain ⟨s0, s1, s2, t0, t1, t2⟩ := HF.out _ bb_b)
   | (refine step_append_fresh rfl _ _ 30 Tryz.underlying30 rfl _ _ (limI x) rfl (by first | exact lit_at _ _ (by first | rfl | (simp only [World.size_alloc]; done) | fail) | exact lit_atd _ _ (by first | rfl | (simp only [World.size_alloc]; done) | fail) | exact (lit_at _ _ (by first | rfl | (simp only [World.size_alloc]; done) | fail)).alloc _ | exact lit_atd2 _ _ _ (by first | rfl | (simp only [World.size_alloc]; done) | fail) | exact OwnI.below (lit_at _ _ (by first | rfl | (simp only [World.size_alloc]; done) | fail)) bw_a | exact OwnI.below (lit_atd _ _ (by first | rfl | (simp only [World.size_alloc]; done) | fail)) bw_a | exact OwnI.below ((lit_at _ _ (by first | rfl | (simp only [World.size_alloc]; done) | fail)).alloc _) bw_a | exact OwnI.below (lit_atd2 _ _ _ (by first | rfl | (simp only [World.size_alloc]; done) | fail)) bw_a | exact (OwnI.below (lit_at _ _ (by first | rfl | (simp only [World.size_alloc]; done) | fail)) bw_a).alloc _ | exact OwnI.below (lit_at _ _ (by first | rfl | (simp only [World.size_alloc]; done) | fail)) bw_b | exact OwnI.below (lit_atd _ _ (by first | rfl | (simp only [World.size_alloc]; done) | fail)) bw_b | exact OwnI.below ((lit_at _ _ (by first | rfl | (simp only [World.size_alloc]; done) | fail)).alloc _) bw_b | exact OwnI.below (lit_atd2 _ _ _ (by first | rfl | (simp only [World.size_alloc]; done) | fail)) bw_b | exact (OwnI.below (lit_at _ _ (by first | rfl | (simp only [World.size_alloc]; done) | fail)) bw_b).alloc _ | fail) rfl (K_a.out _ (by first | with_reducible exact Below.refl _ _ | with_reducible exact (Below.refl _ _).drew | with_reducible exact bb_a | with_reducible exact bb_b | with_reducible exact (Below.refl _ _).alloc (Nat.le_refl _) _ | with_reducible exact ((Below.refl _ _).alloc (Nat.le_refl _) _).drew | with_reducible exact bb_a.alloc bb_a.size _ | with_reducible exact bb_b.alloc bb_b.size _ | with_reducible exact ((Below.refl _ _).alloc (Nat.le_refl _) _).alloc (by simp) _ | with_reducible exact (((Below.refl _ _).alloc (Nat.le_refl _) _).alloc (by simp) _).drew | with_reducible exact (bb_a.alloc bb_a.size _).alloc (Nat.le_trans bb_a.size (by simp)) _ | with_reducible exact (bb_b.alloc bb_b.size _).alloc (Nat.le_trans bb_b.size (by simp)) _ | fail)) LN_a ?_; intro v_a w_a o_a fr_a bw_a; have bb_a := below_join (wk := W0) bw_a (by first | with_reducible exact Below.refl _ _ | with_reducible exact (Below.refl _ _).drew | with_reducible exact bb_a | with_reducible exact bb_b | with_reducible exact (Below.refl _ _).alloc (Nat.le_refl _) _ | with_reducible exact ((Below.refl _ _).alloc (Nat.le_refl _) _).drew | with_reducible exact bb_a.alloc bb_a.size _ | with_reducible exact bb_b.alloc bb_b.size _ | with_reducible exact ((Below.refl _ _).alloc (Nat.le_refl _) _).alloc (by simp) _ | with_reducible exact (((Below.refl _ _).alloc (Nat.le_refl _) _).alloc (by simp) _).drew | with_reducible exact (bb_a.alloc bb_a.size _).alloc (Nat.le_trans bb_a.size (by simp)) _ | with_reducible exact (bb_b.alloc bb_b.size _).alloc (Nat.le_trans bb_b.size (by simp)) _ | fail); have zz_a := bb_a.size; have zy_a := bw_a.size; have lt9_a := o_a.lt; (try simp only [World.size_alloc, size_drew] at fr_a zy_a lt9_a); (try (have ap_b_a : ApartR _ _ := fun g1 g2 e1 e2 e3 => by (have h1 := lt9_b g1 e1; have h2 := fr_b g1 e1; have h3 := fr_a g2 e2; omega))); replace o_a : OwnI w_a W0.heap.size v_a (limI x) := o_a.base (by first | omega | (simp only [World.size_alloc, size_drew]; omega)); obtain ⟨a_a, c_a, rfl⟩ := o_a.slice; (try first | with_reducible (have o_b := o_b.below bw_a) | with_reducible (have o_b := (o_b.alloc _).below bw_a) | with_reducible (have o_b := ((o_b.alloc _).alloc _).below bw_a)); obtain ⟨s0, s1, s2, t0, t1, t2⟩ := HF.out _ bb_a))
 all_goals first
  | (have oo : OwnR w_a W0.heap.size (.slice a_a (limI x).length c_a) (limI x) (.slice a_b (limI d).length c_b) (limI d) := ⟨o_a, o_b, by first | exact ap_a_b | exact ap_b_a.symm⟩; have D9 := D_r.out.below bb_a; obtain ⟨e1, e2⟩ := rat_end (b' := b0) (B.out.trans (bb_a.mono B.out.size)) D9 oo (by decide) (by have := SZ.out; omega) (by omega) (.slice a_a (limI x).length c_a) (.slice a_b (limI d).length c_b); have D8 := Rx.set3 (b' := b0) (v' := .slice a_a (limI x).length c_a) (d' := .slice a_b (limI d).length c_b) D9; have hc0 := D8.c0; have hc1 := D8.c1; have hc2 := D8.c2; go_wp2; exact bodyPost_ret (v := .agg #[.bool b0, .slice a_a (limI x).length c_a, .slice a_b (limI d).length c_b]) (by simp [results, Tryz.results154, go_sem, hc0, hc1, hc2]) rfl ⟨_, _, rfl, e1, e2⟩)
  | (have oo : OwnR w_b W0.heap.size (.slice a_a (limI x).length c_a) (limI x) (.slice a_b (limI d).length c_b) (limI d) := ⟨o_a, o_b, by first | exact ap_a_b | exact ap_b_a.symm⟩; have D9 := D_r.out.below bb_b; obtain ⟨e1, e2⟩ := rat_end (b' := b0) (B.out.trans (bb_b.mono B.out.size)) D9 oo (by decide) (by have := SZ.out; omega) (by omega) (.slice a_a (limI x).length c_a) (.slice a_b (limI d).length c_b); have D8 := Rx.set3 (b' := b0) (v' := .slice a_a (limI x).length c_a) (d' := .slice a_b (limI d).length c_b) D9; have hc0 := D8.c0; have hc1 := D8.c1; have hc2 := D8.c2; go_wp2; exact bodyPost_ret (v := .agg #[.bool b0, .slice a_a (limI x).length c_a, .slice a_b (limI d).length c_b]) (by simp [results, Tryz.results154, go_sem, hc0, hc1, hc2]) rfl ⟨_, _, rfl, e1, e2⟩)
end Go.Proofs.YtlepgkkpopjgoaaGreat
