/- VecUnit VecOk. -/
import Derived.Test.YtlepgkkpopjgoaaGreatYVecZero
import Derived.Test.YtlepgkkpopjgoaaGreatYRatOk
namespace Go.Proofs.YtlepgkkpopjgoaaGreat
open Go.RowKit Go.WideShapes Go.ChangeShapes
set_option linter.unusedVariables false
set_option linter.unusedSimpArgs false
def oF : Fr := ⟨false, [1], [1]⟩
theorem of_zero : ofB 0 = false ∧ ofL 0 = [] := ⟨by decide, by unfold ofL; exact List.length_eq_zero_iff.1 (by rw [limI_length]; exact nlen_zero)⟩
theorem of_one : ofB 1 = false ∧ ofL 1 = [1] := ⟨by decide, limI_1⟩
theorem OwnV.some_at {w : World} {B : Nat} {v : Value} {L : List Fr} {xs : List (Value × Value)} (h : OwnV w B v L xs) (h0 : 0 < L.length) : ∃ g c, v = .slice (some ⟨g, 0, none⟩) L.length c ∧ B ≤ g ∧ g < w.heap.size := by
 rcases h.row.2 with ⟨hv, hn⟩ | ⟨g, cap, cur, hv, _⟩
 ·omega
 ·exact ⟨g, cap, hv, h.lt g (.inl (by rw [hv]; rfl))⟩
theorem grow_set {P : List Fr} {n k : Nat} (hP : P.length = k) (hk : k < n) (f : Fr) : (P ++ List.replicate (n - k) Fr.zero).set k f = (P ++ [f]) ++ List.replicate (n - (k + 1)) Fr.zero := by
 obtain ⟨m, rfl⟩ : ∃ m, n = k + 1 + m := ⟨n - (k + 1), by omega⟩
 rw [show k + 1 + m - k = m + 1 by omega, show k + 1 + m - (k + 1) = m by omega, List.set_append_right _ _ (by omega), hP, Nat.sub_self, List.replicate_succ, List.set_cons_zero]
 simp
theorem spec_zero1 (w : World) : Calls Tryz.prog 81 #[] w fun r w' => ∃ x y, r = .returned (.agg #[.bool false, x, y]) ∧ OwnR w' w.heap.size x [] y [1] ∧ Below w.heap.size w w' := by
 go_enter Tryz.func81, Tryz.ntmps81
 go_wp2_with fail
 obtain ⟨W0, hW0⟩ : ∃ x, x = (w.alloc (.cells #[.bool false, .slice none 0 0, .slice none 0 0] 34)) := ⟨_, rfl⟩
 have B := Lib.hid (show Below w.heap.size w W0 by rw [hW0]; exact ((Below.refl _ _).alloc (Nat.le_refl _) _))
 have D_r := Lib.hid (rx_at (show Rx W0 _ 34 (false) (.slice none 0 0) (.slice none 0 0) by rw [hW0]; exact Rx.new _ _ _ _ _) (show w.heap.size = _ by simp))
 have SZ := Lib.hid (show W0.heap.size = w.heap.size + 1 by rw [hW0]; simp)
 rw [← hW0]
 clear hW0
 have BB := Lib.hid (Below.refl W0.heap.size W0)
 have hc9 := spec_ratFromInt 0 W0 (by omega)
 rw [of_zero.1, of_zero.2] at hc9
 refine (hc9).mono ?_
 rintro e w1 ⟨v_q, d_q, rfl, u_q, bw1⟩
 obtain ⟨a_q, c_q, e_q, f_q, hx, hy⟩ := u_q.slices
 simp only [List.length_nil, List.length_cons, Nat.zero_add] at hx hy
 subst hx hy
 replace B := Lib.hid (B.out.trans (bw1.mono B.out.size))
 replace BB := Lib.hid (BB.out.trans (bw1.mono BB.out.size))
 clear bw1
 have c0_r := (D_r.out.below BB.out).c0
 have c1_r := (D_r.out.below BB.out).c1
 have c2_r := (D_r.out.below BB.out).c2
 have f0_r := (D_r.out.below BB.out).f 0
 have f1_r := (D_r.out.below BB.out).f 1
 have f2_r := (D_r.out.below BB.out).f 2
 have D9 := D_r.out.below BB.out
 obtain ⟨e1, e2⟩ := rat_end (b' := false) B.out D9 (u_q) (by decide) (by have := SZ.out; omega) (by omega) (.slice a_q 0 c_q) (.slice e_q 1 f_q)
 have D8 := Rx.set3 (b' := false) (v' := .slice a_q 0 c_q) (d' := .slice e_q 1 f_q) D9
 have hc0 := D8.c0; have hc1 := D8.c1; have hc2 := D8.c2
 go_wp2
 exact bodyPost_ret (v := .agg #[.bool (false), .slice a_q 0 c_q, .slice e_q 1 f_q]) (by simp [results, Tryz.results81, go_sem, hc0, hc1, hc2]) rfl ⟨_, _, rfl, e1, e2⟩
theorem spec_zeroF (w : World) : Calls Tryz.prog 81 #[] w fun r w' => ∃ x y, r = .returned (.agg #[.bool zF.neg, x, y]) ∧ OwnR w' w.heap.size x zF.mag y zF.den ∧ Below w.heap.size w w' := by
 exact spec_zero1 w
set_option maxRecDepth 100000 in
set_option maxHeartbeats 2000000 in
theorem impl_zeroN (n : Nat) (hn : n ≤ 24) (w : World) :
  Calls Tryz.prog 26 #[.int .i64 (n : Int)] w fun e w' => ∃ v xs, e = .returned v ∧ OwnV w' w.heap.size v (List.replicate n zF) xs ∧ Below w.heap.size w w' := by
 have HM := make_rats n (by omega) w
 go_enter Tryz.func26, Tryz.ntmps26
 go_wp2_with fail
 obtain ⟨W1, hW1⟩ : ∃ x, x = w.alloc (zeroV n) := ⟨_, rfl⟩
 have HO := Lib.hid (show OwnV W1 w.heap.size (.slice (some ⟨w.heap.size, 0, none⟩) n n) (List.replicate 0 zF ++ List.replicate (n - 0) Fr.zero) _ by rw [hW1]; exact zeroV_own w w.heap.size n (Nat.le_refl _) (by omega))
 have HB := Lib.hid (show Below w.heap.size w W1 by rw [hW1]; exact (Below.refl _ _).alloc (Nat.le_refl _) _)
 rw [← hW1]
 clear hW1 HM
 go_loopw [15] (fun iv wr => ∃ (k : Nat), k ≤ n ∧ iv = .int .i64 k ∧ ∃ xs, Hid (OwnV wr w.heap.size (.slice (some ⟨w.heap.size, 0, none⟩) n n) (List.replicate k zF ++ List.replicate (n - k) Fr.zero) xs) ∧ Hid (Below w.heap.size w wr)) (fun iv _ => n - (intOf iv).toNat)
 case atStart => exact ⟨0, Nat.zero_le _, rfl, _, HO, HB⟩
 case round =>
  obtain ⟨k, hk, rfl, xs, HK, HBk⟩ := hrel
  by_cases hlt : k < n
  ·have L9 := Lib.hid HK.out.lt
   have hg := (L9.out w.heap.size (.inl rfl)).2
   go_wp2_with fail
   have T := impl_ratFromInt 0 wr (by omega)
   rw [of_zero.1, of_zero.2] at T
   refine T.mono ?_
   rintro e w_r ⟨x_r, y_r, rfl, o_r, bb_r⟩
   obtain ⟨a_r, c_r, e_r, f_r, hx, hy⟩ := o_r.slices
   simp only [List.length_nil, List.length_cons, Nat.zero_add] at hx hy
   subst hx hy
   have lr := o_r.lt
   have OK := HK.out.below bb_r
   have hxl : xs.length = n := by have := HK.out.len; simp at this; omega
   obtain ⟨c0, c1, c2⟩ := OK.cells k (by simp; omega) (by omega)
   have r0 := OK.frozen (k * 3)
   have r1 := OK.frozen (k * 3 + 1)
   have r2 := OK.frozen (k * 3 + 2)
   have O3 := OK.set3 k zF _ _ (by simp; omega) (OwnR.base o_r (by omega)) (fun j hj _ a a' h1 h2 => by have h3 := (L9.out a (.inr ⟨_, List.getElem_mem hj, h1⟩)).2; have h4 := (lr a' h2).1; omega) (fun a h2 => by have h4 := (lr a h2).1; omega)
   rw [grow_set (by simp) hlt, ← List.replicate_succ'] at O3
   have B3 := (((HBk.out.trans (bb_r.mono HBk.out.size)).setCell (p := ⟨w.heap.size, k * 3, none⟩) (Nat.le_refl _) (.bool zF.neg)).setCell (p := ⟨w.heap.size, k * 3 + 1, none⟩) (Nat.le_refl _) (.slice a_r 0 c_r)).setCell (p := ⟨w.heap.size, k * 3 + 2, none⟩) (Nat.le_refl _) (.slice e_r 1 f_r)
   have O4 := Lib.hid O3
   have B4 := Lib.hid B3
   clear O3 B3 OK o_r T
   go_wp2_with fail
   exact ⟨⟨k + 1, by omega, by go_num, _, O4, B4⟩, by simp [intOf]; omega⟩
  ·obtain rfl : k = n := by omega
   rw [Nat.sub_self, List.replicate_zero, List.append_nil] at HK
   go_wp2
   go_ret
   first | exact ⟨_, xs, rfl, HK.out, HBk.out⟩ | exact ⟨_, rfl, ⟨xs, HK.out⟩, HBk.out⟩
set_option maxRecDepth 100000 in
set_option maxHeartbeats 1000000 in
theorem impl_unitN (n k : Nat) (hn : n ≤ 24) (hk : k < n) (w : World) :
  Calls Tryz.prog 68 #[.int .i64 (n : Int), .int .i64 (k : Int)] w fun e w' => ∃ v xs, e = .returned v ∧ OwnV w' w.heap.size v ((List.replicate n zF).set k oF) xs ∧ Below w.heap.size w w' := by
 have T := impl_zeroN n (by omega) w
 go_enter Tryz.func68, Tryz.ntmps68
 go_wp2_with fail
 refine T.mono ?_
 rintro e w1 ⟨v, xs, rfl, hv, b1⟩
 obtain ⟨g, c, rfl, hg1, hg2⟩ := hv.some_at (by simp; omega)
 rw [List.length_replicate] at hv ⊢
 have HV := Lib.hid hv
 have HB := Lib.hid b1
 have L9 := Lib.hid hv.lt
 clear hv b1 T
 go_wp2_with fail
 have T := impl_ratFromInt 1 w1 (by omega)
 rw [of_one.1, of_one.2] at T
 refine T.mono ?_
 rintro e w_r ⟨x_r, y_r, rfl, o_r, bb_r⟩
 obtain ⟨a_r, c_r, e_r, f_r, hx, hy⟩ := o_r.slices
 simp only [List.length_nil, List.length_cons, Nat.zero_add] at hx hy
 subst hx hy
 have lr := o_r.lt
 have OK := HV.out.below bb_r
 have hxl : xs.length = n := by have := HV.out.len; simp at this; omega
 obtain ⟨c0, c1, c2⟩ := OK.cells k (by simp; omega) (by omega)
 have r0 := OK.frozen (k * 3)
 have r1 := OK.frozen (k * 3 + 1)
 have r2 := OK.frozen (k * 3 + 2)
 have O3 := OK.set3 k oF _ _ (by simp; omega) (OwnR.base o_r (by have := HB.out.size; omega)) (fun j hj _ a a' h1 h2 => by have h3 := (L9.out a (.inr ⟨_, List.getElem_mem hj, h1⟩)).2; have h4 := (lr a' h2).1; omega) (fun a h2 => by have h4 := (lr a h2).1; omega)
 have B3 := (((HB.out.trans (bb_r.mono HB.out.size)).setCell (p := ⟨g, k * 3, none⟩) hg1 (.bool oF.neg)).setCell (p := ⟨g, k * 3 + 1, none⟩) hg1 (.slice a_r 1 c_r)).setCell (p := ⟨g, k * 3 + 2, none⟩) hg1 (.slice e_r 1 f_r)
 have O4 := Lib.hid O3
 have B4 := Lib.hid B3
 clear O3 B3 OK o_r T
 go_wp2
 go_ret
 first | exact ⟨_, _, rfl, O4.out, B4.out⟩ | exact ⟨_, rfl, ⟨_, O4.out⟩, B4.out⟩
end Go.Proofs.YtlepgkkpopjgoaaGreat
namespace Go.Proofs.YtlepgkkpopjgoaaGreat
open Go.RowKit Go.WideShapes Go.ChangeShapes
set_option linter.unusedVariables false
set_option linter.unusedSimpArgs false
theorem impl_isV (v : Value) (L : List Fr) (w : World) (h : RatsAt w v L) : Calls Tryz.prog 64 #[v] w fun e w' => e = .returned (.bool (vecB ratOk L)) ∧ Below w.heap.size w w' :=
 impl_isVectorH ratOk (fun b v zs d ds w h => impl_ratOk b v zs d ds w h) v L w h
end Go.Proofs.YtlepgkkpopjgoaaGreat
