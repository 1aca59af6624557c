/- The running total under multiplication; its fold over a list. -/
import Derived.Test.YtlepgkkpopjgoaaGreatZRatOps
import Derived.Test.YtlepgkkpopjgoaaGreatZRatOk
import Derived.Test.YtlepgkkpopjgoaaGreatZVecNum
import Derived.Test.YtlepgkkpopjgoaaGreatZVecComb
import Derived.Test.YtlepgkkpopjgoaaGreatZVecUnit
import Derived.Deep.RegionWith
import Derived.Test.YtlepgkkpopjgoaaGreatZElim
namespace Go.Proofs.YtlepgkkpopjgoaaGreat
open Go.RowKit Go.WideShapes Go.ChangeShapes
set_option linter.unusedVariables false
set_option linter.unusedSimpArgs false

theorem setCell3_grown (w : World) (p : Nat) (x y z : Value) : w.grownBy (((w.setCell ⟨p, 0, none⟩ x).setCell ⟨p, 1, none⟩ y).setCell ⟨p, 2, none⟩ z) (some p) :=
  grownBy_trans (grownBy_trans (setCell_grown w p 0 x) (setCell_grown _ p 1 y)) (setCell_grown _ p 2 z)
theorem grownBy_set3 {w wn : World} {p : Nat} (hB : Below w.heap.size w wn) (x y z : Value) : w.grownBy (((wn.setCell ⟨p, 0, none⟩ x).setCell ⟨p, 1, none⟩ y).setCell ⟨p, 2, none⟩ z) (some p) :=
  grownBy_trans (grownBy_of_below hB _) (setCell3_grown _ _ _ _ _)

set_option maxRecDepth 100000 in
set_option maxHeartbeats 2000000 in
theorem impl_totMul (p : Nat) (b0 : Bool) (v0 : Value) (x : Nat) (d0 : Value) (d : Nat) (b1 : Bool) (v1 : Value) (y : Nat) (d1 : Value) (e : Nat) (w : World) (D : Rx w p 116 b0 v0 d0) (h0 : RowR w v0 (limI x) d0 (limI d)) (h1 : RowR w v1 (limI y) d1 (limI e)) (hx : x < pw 24) (hd : d < pw 24) (hy : y < pw 24) (he : e < pw 24) (hd0 : 0 < d) (he0 : 0 < e) (g0 : Nat.gcd x d = 1) (g1 : Nat.gcd y e = 1) (n0 : b0 = true → 0 < x) (n1 : b1 = true → 0 < y) :
    Calls Tryz.prog 62 #[.pointer (some ⟨p, 0, none⟩), .agg #[.bool b1, v1, d1]] w fun r w' => (∃ q, r = .returned q) ∧ (∃ v dd, Rx w' p 116 (mkB (!(b0 == b1)) (lowX (x * y) (d * e)) (lowD (x * y) (d * e))) v dd ∧ OwnR w' w.heap.size v (mkZ (lowX (x * y) (d * e)) (lowD (x * y) (d * e))) dd (mkD (lowX (x * y) (d * e)) (lowD (x * y) (d * e)))) ∧ w.grownBy w' (some p) := by
  have CH := Lib.hid (And.intro hx (And.intro hd (And.intro hy (And.intro he (And.intro hd0 (And.intro he0 (And.intro g0 (And.intro g1 (And.intro n0 n1)))))))))
  have HP := Lib.hid D.lt
  have HD := Lib.hid D
  have H0 := Lib.hid h0
  have H1 := Lib.hid h1
  clear hx hd hy he hd0 he0 g0 g1 n0 n1 D
  have RA_x := Lib.hid h0.1
  have RA_d := Lib.hid h0.2
  obtain ⟨⟨a0, c0, rfl, z1, z2, z3⟩, ⟨e0, f0, rfl, z4, z5, z6⟩⟩ := h0
  clear z1 z2 z3 z4 z5 z6
  have RA_y := Lib.hid h1.1
  have RA_e := Lib.hid h1.2
  obtain ⟨⟨a1, c1, rfl, z1, z2, z3⟩, ⟨e1, f1, rfl, z4, z5, z6⟩⟩ := h1
  clear z1 z2 z3 z4 z5 z6
  have L_x := Lib.hid (limI_length x)
  rw [limI_length] at RA_x
  try rw [limI_length x]
  obtain ⟨nx, hnx⟩ : ∃ n, nlen x = n := ⟨_, rfl⟩
  rw [hnx] at RA_x L_x
  try rw [hnx]
  have N_x := Lib.hid hnx
  clear hnx
  have L_d := Lib.hid (limI_length d)
  rw [limI_length] at RA_d
  try rw [limI_length d]
  obtain ⟨nd, hnd⟩ : ∃ n, nlen d = n := ⟨_, rfl⟩
  rw [hnd] at RA_d L_d
  try rw [hnd]
  have N_d := Lib.hid hnd
  clear hnd
  have L_y := Lib.hid (limI_length y)
  rw [limI_length] at RA_y
  try rw [limI_length y]
  obtain ⟨ny, hny⟩ : ∃ n, nlen y = n := ⟨_, rfl⟩
  rw [hny] at RA_y L_y
  try rw [hny]
  have N_y := Lib.hid hny
  clear hny
  have L_e := Lib.hid (limI_length e)
  rw [limI_length] at RA_e
  try rw [limI_length e]
  obtain ⟨ne, hne⟩ : ∃ n, nlen e = n := ⟨_, rfl⟩
  rw [hne] at RA_e L_e
  try rw [hne]
  have N_e := Lib.hid hne
  clear hne
  rw [L_x.out, L_d.out] at HD H0
  rw [L_y.out, L_e.out] at H1
  obtain ⟨SS, hSS⟩ : ∃ s, (!(b0 == b1)) = s := ⟨_, rfl⟩
  obtain ⟨XX, hXX⟩ : ∃ s, (lowX (x * y) (d * e)) = s := ⟨_, rfl⟩
  obtain ⟨DD, hDD⟩ : ∃ s, (lowD (x * y) (d * e)) = s := ⟨_, rfl⟩
  rw [hSS, hXX, hDD]
  have HE := Lib.hid (And.intro hSS (And.intro hXX hDD))
  clear hSS hXX hDD
  go_enter Tryz.func62, Tryz.ntmps62
  go_wp2_with fail
  obtain ⟨W0, hW0⟩ : ∃ x, x = (w.alloc (.cells #[.bool b1, .slice a1 ny c1, .slice e1 ne f1] 34)) := ⟨_, rfl⟩
  have B := Lib.hid (show Below w.heap.size w W0 by rw [hW0]; exact ((Below.refl _ _).alloc (Nat.le_refl _) _))
  have D_y := Lib.hid (rx_at (show Rx W0 _ 34 (b1) (.slice a1 ny c1) (.slice e1 ne f1) by rw [hW0]; exact Rx.new _ _ _ _ _) (show w.heap.size = _ by simp))
  have SZ := Lib.hid (show W0.heap.size = w.heap.size + 1 by rw [hW0]; simp)
  rw [← hW0]
  clear hW0
  have BB := Lib.hid (Below.refl W0.heap.size W0)
  have M_t := Lib.hid (HD.out.below B.out)
  have K_q := Lib.hid (fun (W : World) (hW : Below W0.heap.size W0 W) => pre_rat ((by have h := impl_timesR b0 _ x _ d b1 _ y _ e W (H0.out.below (B.out.trans (hW.mono B.out.size))) (H1.out.below (B.out.trans (hW.mono B.out.size))) CH.out.1 CH.out.2.1 CH.out.2.2.1 CH.out.2.2.2.1 CH.out.2.2.2.2.1 CH.out.2.2.2.2.2.1 CH.out.2.2.2.2.2.2.1 CH.out.2.2.2.2.2.2.2.1 CH.out.2.2.2.2.2.2.2.2.1 CH.out.2.2.2.2.2.2.2.2.2; rw [HE.out.1, HE.out.2.1, HE.out.2.2] at h; exact h)) hW)
  have c0_t := M_t.out.c0
  have c1_t := M_t.out.c1
  have c2_t := M_t.out.c2
  have c0_y := (D_y.out.below BB.out).c0
  have c1_y := (D_y.out.below BB.out).c1
  have c2_y := (D_y.out.below BB.out).c2
  have f0_t := M_t.out.f 0
  have f1_t := M_t.out.f 1
  have f2_t := M_t.out.f 2
  have lt_t := M_t.out.lt
  have HF := Lib.hid (show ∀ W : World, Below W0.heap.size W0 W → Rx W p 116 b0 (.slice a0 nx c0) (.slice e0 nd f0) from fun W hW => M_t.out.below hW)
  have HY := Lib.hid (show ∀ W : World, Below W0.heap.size W0 W → Rx W w.heap.size 34 b1 (.slice a1 ny c1) (.slice e1 ne f1) from fun W hW => D_y.out.below (BB.out.trans (hW.mono BB.out.size)))
  go_region_with (first | (go_at_call 105; refine (K_q.out _ (by first | with_reducible exact Below.refl _ _ | with_reducible exact (Below.refl _ _).drew | with_reducible exact bb_q)).mono ?_; rintro e w_q ⟨v_q, d_q, rfl, u_q, lo_q, bw_q, bb_q⟩; obtain ⟨a_q, c_q, e_q, f_q, rfl, rfl⟩ := u_q.slices; have D9 := HF.out _ bb_q; have s0 := D9.c0; have s1 := D9.c1; have s2 := D9.c2; have t0 := D9.f 0; have t1 := D9.f 1; have t2 := D9.f 2; have Y9 := HY.out _ bb_q; have q0 := Y9.c0; have q1 := Y9.c1; have q2 := Y9.c2))
  all_goals (have G9 := grownBy_set3 (p := p) (B.out.trans (bb_q.mono B.out.size)) (.bool (mkB SS XX DD)) (.slice a_q (mkZ XX DD).length c_q) (.slice e_q (mkD XX DD).length f_q); have D8 := Rx.set3 (b' := mkB SS XX DD) (v' := .slice a_q (mkZ XX DD).length c_q) (d' := .slice e_q (mkD XX DD).length f_q) D9; have O8 := u_q.set3 (b' := mkB SS XX DD) D9 (by decide) (.slice a_q (mkZ XX DD).length c_q) (.slice e_q (mkD XX DD).length f_q); go_wp2; go_end0; exact ⟨⟨_, rfl⟩, ⟨_, _, D8, O8.base (by have := SZ.out; omega)⟩, G9⟩)

/-- a block of the call's own may be written to -/
theorem grownBy_own {w wn : World} {p q j : Nat} (hB : w.grownBy wn (some p)) (hq : w.heap.size ≤ q) (x : Value) : w.grownBy (wn.setCell ⟨q, j, none⟩ x) (some p) :=
  ⟨hB.os, hB.tape, hB.output, by have := hB.size; simp; omega, fun i hi hr => (Below.heap_setCell wn ⟨q, j, none⟩ x i (by show i ≠ q; omega)).trans (hB.block i hi hr)⟩
theorem impl_ratOkR (b : Bool) (v : Value) (zs : List Int) (d : Value) (ds : List Int) (q : Bool) (w : World) (h : RowR w v zs d ds) (hq : ratOk b zs ds = q) :
    Calls Tryz.prog 65 #[.agg #[.bool b, v, d]] w fun r w' => r = .returned (.bool q) ∧ Below w.heap.size w w' := by
  rw [← hq]; exact impl_ratOk b v zs d ds w h

set_option maxRecDepth 100000 in
set_option maxHeartbeats 1000000 in
theorem impl_start_yes (b : Bool) (v : Value) (zs : List Int) (d : Value) (ds : List Int) (w : World) (h : RowR w v zs d ds) (hq : ratOk b zs ds = true) :
    Calls Tryz.prog 60 #[.agg #[.bool b, v, d]] w fun r w' => ∃ p, r = .returned (.pointer (some ⟨p, 0, none⟩)) ∧ Rx w' p 116 b v d ∧ w.heap.size ≤ p ∧ Below w.heap.size w w' := by
  have K := Lib.hid (fun W (hW : Below w.heap.size w W) => impl_ratOkR b v zs d ds true W (h.below hW) hq)
  obtain ⟨⟨a, c, rfl, h1, h2, h3⟩, ⟨e, f, rfl, h4, h5, h6⟩⟩ := h
  clear h1 h2 h3 h4 h5 h6 hq
  obtain ⟨n, hn⟩ : ∃ n, zs.length = n := ⟨_, rfl⟩
  obtain ⟨m, hm⟩ : ∃ n, ds.length = n := ⟨_, rfl⟩
  rw [hn, hm] at K
  try rw [hn, hm]
  clear hn hm
  go_enter Tryz.func60, Tryz.ntmps60
  go_wp2_with fail
  obtain ⟨W0, hW0⟩ : ∃ x, x = (w.alloc (.cells #[.bool b, .slice a n c, .slice e m f] 34)) := ⟨_, rfl⟩
  have B := Lib.hid (show Below w.heap.size w W0 by rw [hW0]; exact ((Below.refl _ _).alloc (Nat.le_refl _) _))
  have D_x := Lib.hid (rx_at (show Rx W0 _ 34 (b) (.slice a n c) (.slice e m f) by rw [hW0]; exact Rx.new _ _ _ _ _) (show w.heap.size = _ by simp))
  have SZ := Lib.hid (show W0.heap.size = w.heap.size + 1 by rw [hW0]; simp)
  rw [← hW0]
  clear hW0
  have BB := Lib.hid (Below.refl W0.heap.size W0)
  refine (K.out _ B.out).mono ?_
  rintro e w1 ⟨rfl, bw1⟩
  replace B := Lib.hid (B.out.trans (bw1.mono B.out.size))
  replace BB := Lib.hid (BB.out.trans (bw1.mono BB.out.size))
  clear bw1
  have c0_x := (D_x.out.below BB.out).c0
  have c1_x := (D_x.out.below BB.out).c1
  have c2_x := (D_x.out.below BB.out).c2
  go_wp2
  go_ret
  exact ⟨_, rfl, Rx.new _ _ _ _ _, B.out.size, B.out.alloc B.out.size _⟩

theorem impl_totMulF (p : Nat) (f g : Fr) (hf : okF f = true) (hg : okF g = true) (v d v' d' : Value) (w : World) (D : Rx w p 116 f.neg v d) (h0 : RowR w v f.mag d f.den) (h1 : RowR w v' g.mag d' g.den) :
    Calls Tryz.prog 62 #[.pointer (some ⟨p, 0, none⟩), .agg #[.bool g.neg, v', d']] w fun r w' => (∃ q, r = .returned q) ∧ (∃ x y, Rx w' p 116 (mulX f g).neg x y ∧ OwnR w' w.heap.size x (mulX f g).mag y (mulX f g).den) ∧ w.grownBy w' (some p) := by
  obtain ⟨b, x, k, rfl, hx, hk, hk0, hgg, hb⟩ := okF_parts hf
  obtain ⟨b', x', k', rfl, hx', hk', hk0', hgg', hb'⟩ := okF_parts hg
  simp only [mulX, natI_limI]
  exact impl_totMul p b v x d k b' v' x' d' k' w D h0 h1 hx hk hx' hk' hk0 hk0' hgg hgg' hb hb'
/-- the product of a list, from a first factor on -/
def prodX (f0 : Fr) (F : List Fr) : Fr := F.foldl mulX f0
theorem prod_zero (F : List Fr) : prodX Fr.zero F = Fr.zero := by
  unfold prodX
  induction F with
  | nil => rfl
  | cons f F ih => rw [List.foldl_cons, mul_zeroL]; exact ih
theorem prod_good {f0 : Fr} {F : List Fr} (h0 : goodF f0) (h : F.all okF = true) : goodF (prodX f0 F) := by
  unfold prodX
  induction F generalizing f0 with
  | nil => exact h0
  | cons f F ih =>
    rw [List.all_cons, Bool.and_eq_true] at h
    rw [List.foldl_cons]
    exact ih (good_mulX h0 (.inr h.1)) h.2
theorem prod_take {f0 : Fr} {F : List Fr} {i : Nat} (h : i < F.length) : prodX f0 (F.take (i + 1)) = mulX (prodX f0 (F.take i)) (F[i]'h) := by
  unfold prodX
  rw [List.take_add_one, List.getElem?_eq_getElem h, List.foldl_append]
  rfl
theorem prod_split {f0 : Fr} {F : List Fr} (i : Nat) : prodX f0 F = prodX (prodX f0 (F.take i)) (F.drop i) := by
  unfold prodX
  rw [← List.foldl_append, List.take_append_drop]
theorem okF_take {F : List Fr} (h : F.all okF = true) (i : Nat) : (F.take i).all okF = true := by
  rw [List.all_eq_true] at h ⊢
  exact fun x hx => h x (List.mem_of_mem_take hx)
theorem ok_den {f : Fr} (h : okF f = true) : 0 < f.den.length := by
  obtain ⟨b, x, k, rfl, hx, hk, hk0, hgg, hb⟩ := okF_parts h
  show 0 < (limI k).length
  rw [limI_length]
  rcases Nat.eq_zero_or_pos (nlen k) with h0 | h0
  · have h1 : nlen k ≤ 0 := by omega
    have h2 := (nlen_le_iff _ _).1 h1
    have h3 : pw 0 = 1 := rfl
    omega
  · exact h0

set_option maxRecDepth 100000 in
set_option maxHeartbeats 4000000 in
theorem impl_foldM (p B : Nat) (fv : Value) (f0 : Fr) (F : List Fr) (v0 d0 : Value) (w : World) (D : Rx w p 116 f0.neg v0 d0) (h0 : OwnR w B v0 f0.mag d0 f0.den) (hB : B ≤ w.heap.size) (hg : okF f0 = true) (hF : F.all okF = true) (hn : F.length ≤ 60) (HF : ∀ W, w.grownBy W (some p) → RatsAt W fv F) :
    Calls Tryz.prog 61 #[.pointer (some ⟨p, 0, none⟩), .func (.func 62) #[.pointer (some ⟨p, 0, none⟩)] #[], fv] w fun r w' => ∃ x y, r = .returned (.agg #[.bool (prodX f0 F).neg, x, y]) ∧ OwnR w' B x (prodX f0 F).mag y (prodX f0 F).den ∧ w.grownBy w' (some p) := by
  obtain ⟨a, cap, rfl, hc, hm, _⟩ := HF w (grownBy_of_below (Below.refl _ _) _)
  have HG := Lib.hid (fun i => prod_good (f0 := f0) (F := F.take i) (.inr hg) (okF_take hF i))
  have HO := Lib.hid (fun f hf => (List.all_eq_true.1 hF) f hf)
  have HR := Lib.hid HF
  have HP := Lib.hid D.lt
  have HBB := Lib.hid hB
  have HV0 := Lib.hid h0
  unfold maxLen at hm
  obtain ⟨n, hnn⟩ : ∃ n, F.length = n := ⟨_, rfl⟩
  rw [hnn] at hc hn HR ⊢
  have HN := Lib.hid hnn
  obtain ⟨Z, hZ⟩ : ∃ z, z = prodX f0 F := ⟨_, rfl⟩
  rw [← hZ]
  have HZ := Lib.hid hZ
  clear HF hF hg hnn hZ h0
  go_enter Tryz.func61, Tryz.ntmps61
  go_wp2_with fail
  obtain ⟨h0, hh0⟩ : ∃ h0, h0 = w.heap.size := ⟨_, rfl⟩
  obtain ⟨W0, hW0⟩ : ∃ x, x = (w.alloc (.cells #[.bool false, .slice none 0 0, .slice none 0 0] 34)) := ⟨_, rfl⟩
  have R0 := Lib.hid (show Rx W0 h0 34 false (.slice none 0 0) (.slice none 0 0) by rw [hW0, hh0]; exact Rx.new _ _ _ _ _)
  have P0 := Lib.hid (show Rx W0 p 116 f0.neg v0 d0 by rw [hW0]; exact D.alloc _)
  have G0 := Lib.hid (show w.grownBy W0 (some p) by rw [hW0]; exact grownBy_of_below ((Below.refl _ _).alloc (Nat.le_refl _) _) _)
  have V0 := Lib.hid (show OwnR W0 B v0 f0.mag d0 f0.den by rw [hW0]; exact HV0.out.alloc _)
  have HH := Lib.hid hh0
  rw [← hh0] at hB HP
  rw [← hW0, ← hh0]
  clear hW0 hh0 D HV0
  go_loopw [11] (fun iv wr => ∃ (i : Nat) (x y : Value), i ≤ n ∧ iv = .int .i64 i ∧ Hid (Rx wr p 116 (prodX f0 (F.take i)).neg x y) ∧ Hid (OwnR wr B x (prodX f0 (F.take i)).mag y (prodX f0 (F.take i)).den) ∧ Hid (Rx wr h0 34 false (.slice none 0 0) (.slice none 0 0)) ∧ Hid (w.grownBy wr (some p))) (fun iv _ => n - (intOf iv).toNat)
  case atStart => exact ⟨0, v0, d0, Nat.zero_le _, rfl, P0, V0, R0, G0⟩
  case round =>
    clear P0 V0 R0 G0
    obtain ⟨i, x, y, hi, rfl, P, V, R, G⟩ := hrel
    have hsz := G.out.size
    obtain ⟨va, vc, ve, vf, rfl, rfl⟩ := V.out.slices
    obtain ⟨T, hT⟩ : ∃ T, T = prodX f0 (F.take i) := ⟨_, rfl⟩
    have GT := HG.out i
    rw [← hT] at P V GT
    have HT := Lib.hid hT
    clear hT
    by_cases hlt : i < n
    · have hltF : i < F.length := by rw [HN.out]; exact hlt
      obtain ⟨_, _, e9, _, _, hrow⟩ := HR.out wr G.out
      obtain ⟨b, o, x', y', rfl, s0, s1, s2, hrr⟩ := hrow i hltF
      obtain ⟨f, hf⟩ : ∃ f, f = F[i]'hltF := ⟨_, rfl⟩
      rw [← hf] at s0 hrr
      have hok := HO.out f (by rw [hf]; exact List.getElem_mem _)
      have HFF := Lib.hid hf
      obtain ⟨a1, r1, a3, r3, rfl, rfl, hz1, hz2⟩ := rowR_len hrr
      have RR := Lib.hid hrr
      clear hf hrr hrow
      go_upto_region 4 with fail
      obtain ⟨p6, hp6⟩ : ∃ x, x = wr.heap.size := ⟨_, rfl⟩
      obtain ⟨W5, hW5⟩ : ∃ x, x = wr.alloc (.cells #[.bool f.neg, .slice a1 f.mag.length r1, .slice a3 f.den.length r3] 34) := ⟨_, rfl⟩
      have b5 := (show Below wr.heap.size wr W5 by rw [hW5]; exact (Below.refl _ _).alloc (Nat.le_refl _) _)
      have F6 := Lib.hid (show Rx W5 p6 34 f.neg (.slice a1 f.mag.length r1) (.slice a3 f.den.length r3) by rw [hW5, hp6]; exact Rx.new _ _ _ _ _)
      replace P := Lib.hid (P.out.below b5)
      replace V := Lib.hid (V.out.below b5)
      replace R := Lib.hid (R.out.below b5)
      replace RR := Lib.hid (RR.out.below b5)
      replace G := Lib.hid (grownBy_trans G.out (grownBy_of_below b5 _))
      rw [← hW5, ← hp6]
      clear hW5 hp6 b5 s0 s1 s2
      have c0 := P.out.c0
      have c1 := P.out.c1
      have c2 := P.out.c2
      rcases GT with h9 | h9
      · have hz : ((T.den.length : Int) == 0) = true := by rw [h9]; rfl
        have eZ : Z = Fr.zero := by rw [HZ.out, prod_split i, ← HT.out, h9, prod_zero]
        have z0 := R.out.c0
        have z1 := R.out.c1
        have z2 := R.out.c2
        have x0 := R.out.f 0
        have x1 := R.out.f 1
        have x2 := R.out.f 2
        go_wp2_with fail
        have D8 := Rx.set3 (b' := false) (v' := .slice none 0 0) (d' := .slice none 0 0) R.out
        have hc0 := D8.c0
        have hc1 := D8.c1
        have hc2 := D8.c2
        have hq : w.heap.size ≤ h0 := by rw [HH.out]; exact Nat.le_refl _
        exact bodyPost_ret (v := .agg #[.bool false, .slice none 0 0, .slice none 0 0]) (by simp [results, Tryz.results61, go_sem, hc0, hc1, hc2]) rfl ⟨_, _, rfl, ownR_none _ _, grownBy_own (grownBy_own (grownBy_own G.out hq _) hq _) hq _⟩
      · have hz : ((T.den.length : Int) == 0) = false := by have h1 := ok_den h9; rw [beq_eq_false_iff_ne]; omega
        have f0' := F6.out.c0
        have f1' := F6.out.c1
        have f2' := F6.out.c2
        go_wp2_with fail
        refine (impl_ratOkR f.neg _ f.mag _ f.den true W5 RR.out hok).mono ?_
        rintro e w6 ⟨rfl, b6⟩
        replace F6 := Lib.hid (F6.out.below b6)
        replace P := Lib.hid (P.out.below b6)
        replace V := Lib.hid (V.out.below b6)
        replace R := Lib.hid (R.out.below b6)
        replace RR := Lib.hid (RR.out.below b6)
        replace G := Lib.hid (grownBy_trans G.out (grownBy_of_below b6 _))
        clear b6 f0' f1' f2' c0 c1 c2
        have f0' := F6.out.c0
        have f1' := F6.out.c1
        have f2' := F6.out.c2
        go_wp2_with fail
        refine (impl_totMulF p T f h9 hok _ _ _ _ w6 P.out V.out.row RR.out).mono ?_
        rintro ee w7 ⟨⟨qq, rfl⟩, ⟨x', y', P7, V7⟩, g7⟩
        have e7 : mulX T f = prodX f0 (F.take (i + 1)) := by rw [prod_take hltF, HT.out, HFF.out]
        rw [e7] at P7 V7
        have HP7 := Lib.hid P7
        have HV7 := Lib.hid (V7.base (B' := B) (by have := G.out.size; have := HBB.out; omega))
        have HR7 := Lib.hid (R.out.kept g7 (by intro h; injection h with h; have := HP.out; omega))
        have HG7 := Lib.hid (grownBy_trans G.out g7)
        clear P7 V7 g7 e7 P V R RR F6 f0' f1' f2' hsz
        go_wp2_with fail
        exact ⟨⟨i + 1, x', y', by omega, by go_num, HP7, HV7, HR7, HG7⟩, by simp [intOf]; omega⟩
    · obtain rfl : i = n := by omega
      have eZ : T = Z := by rw [HT.out, HZ.out, ← HN.out, List.take_length]
      subst eZ
      have c0 := P.out.c0
      have c1 := P.out.c1
      have c2 := P.out.c2
      have z0 := R.out.c0
      have z1 := R.out.c1
      have z2 := R.out.c2
      have x0 := R.out.f 0
      have x1 := R.out.f 1
      have x2 := R.out.f 2
      go_wp2_with fail
      have D8 := Rx.set3 (b' := T.neg) (v' := .slice va T.mag.length vc) (d' := .slice ve T.den.length vf) R.out
      have hc0 := D8.c0
      have hc1 := D8.c1
      have hc2 := D8.c2
      have hq : w.heap.size ≤ h0 := by rw [HH.out]; exact Nat.le_refl _
      exact bodyPost_ret (v := .agg #[.bool T.neg, .slice va T.mag.length vc, .slice ve T.den.length vf]) (by simp [results, Tryz.results61, go_sem, hc0, hc1, hc2]) rfl ⟨_, _, rfl, V.out.set3 R.out (by decide) _ _, grownBy_own (grownBy_own (grownBy_own G.out hq _) hq _) hq _⟩

end Go.Proofs.YtlepgkkpopjgoaaGreat
