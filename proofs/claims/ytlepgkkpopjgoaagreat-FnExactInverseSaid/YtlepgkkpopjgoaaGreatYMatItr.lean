/- MatIid MatItr. -/
import Derived.Test.YtlepgkkpopjgoaaGreatYMatId
import Derived.Test.YtlepgkkpopjgoaaGreatYMatIget
import Derived.Test.YtlepgkkpopjgoaaGreatYVecOk
import Derived.BigRegion
import Derived.Stop.RegionWithIn
import Derived.Deep.RegionHeld3
namespace Go.Proofs.YtlepgkkpopjgoaaGreat
open Go.RowKit Go.WideShapes Go.ChangeShapes
set_option linter.unusedVariables false
set_option linter.unusedSimpArgs false
def idU (o : Fr) (n i : Nat) : List Fr := (List.range i).flatMap (fun j => (List.replicate n zF).set j o)
theorem idU_succ (o : Fr) (n i : Nat) : idU o n (i + 1) = idU o n i ++ (List.replicate n zF).set i o := by unfold idU; rw [List.range_succ, List.flatMap_append]; simp
theorem idU_len (o : Fr) (n i : Nat) : (idU o n i).length = i * n := by
 induction i with
 | zero => simp [idU]
 | succ i ih => rw [idU_succ, List.length_append, ih, List.length_set, List.length_replicate, Nat.add_mul, Nat.one_mul]
theorem idL_idU (o : Fr) (n : Nat) : ∀ i, i ≤ n → idL o n i = idU o n i ++ List.replicate ((n - i) * n) zF
 | 0, _ => by simp [idL, idU]
 | i + 1, h => by
  have e : (n - i) * n = n + (n - (i + 1)) * n := by rw [show n - i = (n - (i + 1)) + 1 by omega, Nat.add_mul, Nat.one_mul, Nat.add_comm]
  show (idL o n i).set (i * n + i) o = _
  rw [idL_idU o n i (by omega), idU_succ, e, ← List.replicate_append_replicate, List.set_append_right _ _ (by rw [idU_len]; omega), idU_len, List.set_append_left _ _ (by rw [List.length_replicate]; omega)]
  rw [show i * n + i - i * n = i by omega, List.append_assoc]
theorem idU_all (o : Fr) (n : Nat) : idU o n n = idL o n n := by rw [idL_idU o n n (Nat.le_refl _)]; simp
set_option maxRecDepth 100000 in
set_option maxHeartbeats 2000000 in
theorem impl_identityMatrix (n : Int) (w : World) :
  Calls Tryz.prog 19 #[.int .i64 n] w fun e w' => ∃ u xs, e = .returned (.agg #[.int .i64 (idN n), .int .i64 (idN n), u]) ∧ OwnV w' w.heap.size u (idM oF n) xs ∧ Below w.heap.size w w' := by
 obtain ⟨W0, hW0⟩ : ∃ x, x = w.alloc (.cells #[.int .i64 0, .int .i64 0, .slice none 0 0] 25) := ⟨_, rfl⟩
 have Z := Lib.hid (show B3 W0 w.heap.size 25 (.int .i64 0) (.int .i64 0) (.slice none 0 0) by rw [hW0]; exact B3.new _ _ _ _ _)
 have B0 := Lib.hid (show Below w.heap.size w W0 by rw [hW0]; exact (Below.refl _ _).alloc (Nat.le_refl _) _)
 have HW := Lib.hid hW0.symm
 clear hW0
 cases q0 : dimB n with
 | false =>
  have e0 : idM oF n = [] ∧ idN n = 0 := by unfold idM idN; rw [q0]; exact ⟨rfl, rfl⟩
  rw [e0.1, e0.2]
  clear e0
  go_enter Tryz.func19, Tryz.ntmps19
  go_wp2_with (rw [HW.out])
  refine (impl_isSize _ _).mono ?_
  rw [q0]
  rintro e w' ⟨rfl, h9⟩
  replace h9 := h9.symm
  subst h9
  have z0 := Z.out.c0
  have z1 := Z.out.c1
  have z2 := Z.out.c2
  have x0 := Z.out.f 0
  have x1 := Z.out.f 1
  have x2 := Z.out.f 2
  have V9 := Lib.hid (OwnV.set3_b3 (OwnV.nil _ w.heap.size) Z.out (by decide) (by decide) (.int .i64 0) (.int .i64 0) (.slice none 0 0))
  have B9 := Lib.hid (((B0.out.setCell (p := ⟨w.heap.size, 0, none⟩) (by simp) (.int .i64 0)).setCell (p := ⟨w.heap.size, 1, none⟩) (by simp) (.int .i64 0)).setCell (p := ⟨w.heap.size, 2, none⟩) (by simp) (.slice none 0 0))
  have D8 := Z.out.set3 (.int .i64 0) (.int .i64 0) (.slice none 0 0)
  have hc0 := D8.c0; have hc1 := D8.c1; have hc2 := D8.c2
  clear D8
  go_wp2_with fail
  exact bodyPost_ret (v := .agg #[(.int .i64 0), (.int .i64 0), (.slice none 0 0)]) (by simp [results, Tryz.results19, go_sem, hc0, hc1, hc2]) rfl ⟨_, _, rfl, V9.out, B9.out⟩
 | true =>
 obtain ⟨u1, u2⟩ := dimB_iff.1 q0
 obtain ⟨m, rfl⟩ : ∃ a : Nat, n = a := ⟨n.toNat, by omega⟩
 have hm : m ≤ 24 := by omega
 have e0 : idM oF m = idU oF m m ∧ idN m = m := by unfold idM idN; rw [q0]; exact ⟨(idU_all oF m).symm, rfl⟩
 rw [e0.1, e0.2]
 clear e0 u1 u2
 obtain ⟨P9, hP9⟩ : ∃ P, P = idU oF m m := ⟨_, rfl⟩
 rw [← hP9]
 have HP9 := Lib.hid hP9
 clear hP9
 go_enter Tryz.func19, Tryz.ntmps19
 go_wp2_with (rw [HW.out])
 refine (impl_isSize _ _).mono ?_
 rw [q0]
 rintro e w' ⟨rfl, h9⟩
 replace h9 := h9.symm
 subst h9
 clear q0
 go_wp2_with fail
 obtain ⟨pO, hpO⟩ : ∃ x, x = W0.heap.size := ⟨_, rfl⟩
 obtain ⟨W3, hW3⟩ : ∃ x, x = W0.alloc (.cells #[.int .i64 (m : Int), .int .i64 (m : Int), .slice none 0 0] 25) := ⟨_, rfl⟩
 have Y0 := Lib.hid (show B3 W3 w.heap.size 25 (.int .i64 0) (.int .i64 0) (.slice none 0 0) by rw [hW3]; exact Z.out.alloc _)
 have O0 := Lib.hid (show B3 W3 pO 25 (.int .i64 (m : Int)) (.int .i64 (m : Int)) (.slice none 0 0) by rw [hW3, hpO]; exact B3.new _ _ _ _ _)
 have B3_ := Lib.hid (show Below w.heap.size w W3 by rw [hW3]; exact B0.out.alloc B0.out.size _)
 have PO := Lib.hid (show w.heap.size < pO by rw [hpO]; exact Z.out.lt)
 rw [← hW3, ← hpO]
 clear hW3 hpO Z B0 HW
 go_loopw [13] (fun iv wr => ∃ (i : Nat) (vo : Value) (xs : List (Value × Value)), i ≤ m ∧ iv = .int .i64 i ∧ Hid (B3 wr w.heap.size 25 (.int .i64 0) (.int .i64 0) (.slice none 0 0)) ∧ Hid (B3 wr pO 25 (.int .i64 (m : Int)) (.int .i64 (m : Int)) vo) ∧ Hid (OwnV wr w.heap.size vo (idU oF m i) xs) ∧ Hid (Below w.heap.size w wr)) (fun iv _ => m - (intOf iv).toNat)
 case atStart => exact ⟨0, .slice none 0 0, [], Nat.zero_le _, rfl, Y0, O0, Lib.hid (OwnV.nil _ _), B3_⟩
 case round =>
  clear Y0 O0 B3_
  obtain ⟨i, vo, xs, hi, rfl, Y, O, V, B⟩ := hrel
  by_cases hlt : i < m
  ·have y2 := O.out.c2
   have y3 := O.out.f 2
   have HP := Lib.hid (idU_succ oF m i)
   have HPL := Lib.hid (show (idU oF m i).length ≤ 100000 by rw [idU_len]; have := Nat.mul_le_mul hi hm; omega)
   obtain ⟨P, hP⟩ : ∃ P, P = idU oF m i := ⟨_, rfl⟩
   obtain ⟨U, hU⟩ : ∃ U, U = (List.replicate m zF).set i oF := ⟨_, rfl⟩
   have HUL := Lib.hid (show U.length = m by rw [hU, List.length_set, List.length_replicate])
   rw [← hP, ← hU] at HP
   rw [← hP] at HPL V
   have HO := Lib.hid (fun W (hW : Below wr.heap.size wr W) => O.out.below hW)
   have BS := Lib.hid B.out.size
   have L9 := Lib.hid V.out.lt
   have HAT := Lib.hid (fun W (hW : Below wr.heap.size wr W) => (impl_unitN m i hm hlt W).mono (R' := fun e w' => ∃ g c ys, e = .returned (.slice (some ⟨g, 0, none⟩) m c) ∧ OwnV w' wr.heap.size (.slice (some ⟨g, 0, none⟩) m c) U ys ∧ Below wr.heap.size wr w') (fun e w' ⟨v, ys, he, hr, hb⟩ => by
    rw [← hU] at hr
    obtain ⟨g, c, hv, _, _⟩ := own_at hr (by rw [HUL.out]; omega)
    rw [HUL.out] at hv
    subst hv
    exact ⟨g, c, ys, he, hr.base hW.size, hW.trans (hb.mono hW.size)⟩))
   clear hP hU
   go_wp2_with fail
   clear y2 y3
   have y2 := O.out.c2
   have y3 := O.out.f 2
   go_region_law (first
    | (have lr := O_c.out.lt; refine step_append_rats rfl _ _ rfl w.heap.size vo P xs rfl (by first | with_reducible exact V.out.below bb_c | with_reducible exact (V.out.below bb_c).drew | fail) HPL.out (by have := BS.out; have := bb_c.size; first | (simp; omega) | omega) g_c m c_c rfl U ys_c (by first | with_reducible exact OwnV.base O_c.out BS.out | with_reducible exact OwnV.base O_c.out.drew BS.out | fail) (by omega) (by omega) (fun i hi j hj r r' h1 h2 => by have h3 := (L9.out r (.inr ⟨_, List.getElem_mem hi, h1⟩)).2; have h4 := (lr r' (.inr ⟨_, List.getElem_mem hj, h2⟩)).1; omega) (fun j hj r h2 h1 => by have h3 := (L9.out r (.inl h1)).2; have h4 := (lr r (.inr ⟨_, List.getElem_mem hj, h2⟩)).1; omega) ?_; intro v_n w_n o_n g_n l_n; have VV := V.out.below bb_c; have O5 := (HO.out _ bb_c).grown VV (by decide) (by decide) g_n; have s2 := O5.c2; have s3 := O5.f 2; obtain ⟨g9, c9, hv9⟩ := o_n.slice; subst hv9; rw [show (P ++ U).length = P.length + U.length from List.length_append] at o_n ⊢)
    | (go_simp; go_at_call 68; refine (HAT.out _ (by first | with_reducible exact Below.refl _ _ | with_reducible exact (Below.refl _ _).drew | fail)).mono ?_; rintro e w_c ⟨g_c, c_c, ys_c, rfl, o_c, bb_c⟩; have O_c := Lib.hid o_c; have Y9 := HO.out _ bb_c; have s2 := Y9.c2; have s3 := Y9.f 2)
    | fail)
   all_goals go_wp2_with fail
   all_goals exact ⟨⟨i + 1, _, _, by omega, by go_num, Lib.hid (((Y.out.below bb_c).grown VV (by decide) (by decide) g_n).far (by have := PO.out; omega) _), Lib.hid (O5.set2 _), Lib.hid (by rw [HP.out]; exact o_n.set_b3 O5 (by decide) (by decide) 2 _), Lib.hid (((B.out.trans (bb_c.mono BS.out)).grown g_n (by have := BS.out; have := bb_c.size; omega) (fun q hq => (L9.out q (.inl hq)).1)).setCell (by have := PO.out; simp; omega) _)⟩, by simp [intOf]; omega⟩
  ·obtain rfl : i = m := by omega
   rw [← HP9.out] at V
   have y0 := O.out.c0
   have y1 := O.out.c1
   have y2 := O.out.c2
   have z0 := Y.out.c0
   have z1 := Y.out.c1
   have z2 := Y.out.c2
   have x0 := Y.out.f 0
   have x1 := Y.out.f 1
   have x2 := Y.out.f 2
   obtain ⟨g9, c9, rfl⟩ := V.out.slice
   have V9 := Lib.hid (V.out.set3_b3 Y.out (by decide) (by decide) (.int .i64 (i : Int)) (.int .i64 (i : Int)) (.slice g9 P9.length c9))
   have B9 := Lib.hid (((B.out.setCell (p := ⟨w.heap.size, 0, none⟩) (by simp) (.int .i64 (i : Int))).setCell (p := ⟨w.heap.size, 1, none⟩) (by simp) (.int .i64 (i : Int))).setCell (p := ⟨w.heap.size, 2, none⟩) (by simp) (.slice g9 P9.length c9))
   have D8 := Y.out.set3 (.int .i64 (i : Int)) (.int .i64 (i : Int)) (.slice g9 P9.length c9)
   have hc0 := D8.c0; have hc1 := D8.c1; have hc2 := D8.c2
   clear D8
   go_wp2_with fail
   exact bodyPost_ret (v := .agg #[.int .i64 (i : Int), .int .i64 (i : Int), .slice g9 P9.length c9]) (by simp [results, Tryz.results19, go_sem, hc0, hc1, hc2]) rfl ⟨_, _, rfl, V9.out, B9.out⟩
end Go.Proofs.YtlepgkkpopjgoaaGreat
namespace Go.Proofs.YtlepgkkpopjgoaaGreat
open Go.RowKit Go.WideShapes Go.ChangeShapes Go.Shelf
set_option linter.unusedVariables false
set_option linter.unusedSimpArgs false
attribute [local go_sem] Oper.semAt_some
theorem b3_own {β : Type} (B : Nat) (t : TypeId) (x y z : Value) : Own (fun (_ : β) W => B3 W B t x y z) := fun s X Y row hs hg hrow =>
 hs.keptK (Kept.of_grown hg) (fun e => by
  obtain ⟨o, ho, hc⟩ := hrow B e
  rw [show X.heap[B]? = _ from hs] at ho; cases ho; cases hc)
theorem OwnV.isCells {w : World} {B : Nat} {v : Value} {L : List Fr} {xs : List (Value × Value)} (h : OwnV w B v L xs) : ∀ k, OnV v xs k → ∃ o : Obj, w.heap[k]? = some o ∧ o.isCells = true := by
 have key : ∀ (u : Value) (l : List Int) (k : Nat), OwnI w B u l → u.ownBlock = some k → ∃ o : Obj, w.heap[k]? = some o ∧ o.isCells = true := by
  intro u l k ho e
  rcases ho.2 with ⟨rfl, _⟩ | ⟨g1, cap1, cur1, rfl, _, hg1, _⟩
  ·simp [Value.ownBlock] at e
  ·have e1 : g1 = k := by simpa [Value.ownBlock] using e
   subst e1
   exact ⟨_, hg1, rfl⟩
 rintro k (e | ⟨p, hp, e⟩)
 ·rcases h.row.2 with ⟨rfl, _⟩ | ⟨g1, cap1, cur1, rfl, _, hg1, _⟩
  ·simp [Value.ownBlock] at e
  ·have e1 : g1 = k := by simpa [Value.ownBlock] using e
   subst e1
   exact ⟨_, hg1, rfl⟩
 ·obtain ⟨i, hi, rfl⟩ := List.getElem_of_mem hp
  have hr := h.each i (by have := h.len; omega) hi
  rcases e with e | e
  ·exact key _ _ k hr.1 e
  ·exact key _ _ k hr.2.1 e
theorem OwnV.turn {X Y : World} {B : Nat} {v : Value} {L : List Fr} {xs : List (Value × Value)} {row : Option Nat} (h : OwnV X B v L xs) (hg : X.grownBy Y row) (hrow : ∀ r, row = some r → ∃ o : Obj, X.heap[r]? = some o ∧ o.isCells = false) : OwnV Y B v L xs :=
 h.kept (Kept.of_grown hg) (fun k hk e => by
  obtain ⟨o, ho, hc⟩ := hrow k e
  obtain ⟨o', ho', hc'⟩ := h.isCells k hk
  rw [ho] at ho'; injection ho' with e1; subst e1; rw [hc] at hc'; cases hc')
theorem b3_shut {W : World} {B D : Nat} {t : TypeId} {x y z : Value} (h : B3 W B t x y z) (hK : W.heap[D]? = some (.deferred (some []))) : B3 (W.putObj D (.deferred none)) B t x y z :=
 h.keptK (Kept.of_grown (grownBy_putObj' W D (.deferred none))) (fun e => by
  injection e with e; subst e
  rw [show W.heap[D]? = _ from h] at hK; cases hK)
theorem ownV_shut {W : World} {B D : Nat} {v : Value} {L : List Fr} {xs : List (Value × Value)} (h : OwnV W B v L xs) (hK : W.heap[D]? = some (.deferred (some []))) : OwnV (W.putObj D (.deferred none)) B v L xs :=
 h.turn (grownBy_putObj' W D (.deferred none)) (fun r e => by cases e; exact ⟨_, hK, rfl⟩)
end Go.Proofs.YtlepgkkpopjgoaaGreat
