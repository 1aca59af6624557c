/- The fold over the operations of a running total. -/
import Derived.Test.YtgoonbjhfbnaiaaRatTot
import Derived.Test.YtgoonbjhfbnaiaaRatOk
import Derived.LoopN
namespace Go.Proofs.Ytgoonbjhfbnaiaa
open Go.RowKit Go.WideShapes Go.ChangeShapes
set_option linter.unusedVariables false
set_option linter.unusedSimpArgs false

/-- a block of the call's own may be written to -/
theorem grownBy_own {w wn : World} {p q j : Nat} (hB : w.grownBy wn (some p)) (hq : w.heap.size ≤ q) (x : Value) : w.grownBy (wn.setCell ⟨q, j, none⟩ x) (some p) :=
  ⟨hB.os, hB.tape, hB.output, by have := hB.size; simp; omega, fun i hi hr => (Below.heap_setCell wn ⟨q, j, none⟩ x i (by show i ≠ q; omega)).trans (hB.block i hi hr)⟩
theorem grownBy_own3 {w wn : World} {p : Nat} (hB : w.grownBy wn (some p)) (x y z : Value) : w.grownBy (((wn.setCell ⟨w.heap.size, 0, none⟩ x).setCell ⟨w.heap.size, 1, none⟩ y).setCell ⟨w.heap.size, 2, none⟩ z) (some p) :=
  grownBy_own (grownBy_own (grownBy_own hB (Nat.le_refl _) x) (Nat.le_refl _) y) (Nat.le_refl _) z
theorem impl_ratOkR (b : Bool) (v : Value) (zs : List Int) (d : Value) (ds : List Int) (q : Bool) (w : World) (h : RowR w v zs d ds) (hq : ratOk b zs ds = q) :
    Calls Try.prog 20 #[.agg #[.bool b, v, d]] w fun r w' => r = .returned (.bool q) ∧ Below w.heap.size w w' := by
  rw [← hq]; exact impl_ratOk b v zs d ds w h


set_option maxRecDepth 100000 in
set_option maxHeartbeats 1000000 in
theorem impl_start_yes (b : Bool) (v : Value) (zs : List Int) (d : Value) (ds : List Int) (w : World) (h : RowR w v zs d ds) (hq : ratOk b zs ds = true) :
    Calls Try.prog 77 #[.agg #[.bool b, v, d]] w fun r w' => ∃ p, r = .returned (.pointer (some ⟨p, 0, none⟩)) ∧ Rx w' p 85 b v d ∧ w.heap.size ≤ p ∧ Below w.heap.size w w' := by
  have K := Lib.hid (fun W (hW : Below w.heap.size w W) => impl_ratOkR b v zs d ds true W (h.below hW) hq)
  obtain ⟨⟨a, c, rfl, h1, h2, h3⟩, ⟨e, f, rfl, h4, h5, h6⟩⟩ := h
  clear h1 h2 h3 h4 h5 h6 hq
  obtain ⟨n, hn⟩ : ∃ n, zs.length = n := ⟨_, rfl⟩
  obtain ⟨m, hm⟩ : ∃ n, ds.length = n := ⟨_, rfl⟩
  rw [hn, hm] at K
  try rw [hn, hm]
  clear hn hm
  go_enter Try.func77, Try.ntmps77
  go_wp2_with fail
  obtain ⟨W0, hW0⟩ : ∃ x, x = (w.alloc (.cells #[.bool b, .slice a n c, .slice e m f] 31)) := ⟨_, rfl⟩
  have B := Lib.hid (show Below w.heap.size w W0 by rw [hW0]; exact ((Below.refl _ _).alloc (Nat.le_refl _) _))
  have D_x := Lib.hid (rx_at (show Rx W0 _ 31 (b) (.slice a n c) (.slice e m f) by rw [hW0]; exact Rx.new _ _ _ _ _) (show w.heap.size = _ by simp))
  have SZ := Lib.hid (show W0.heap.size = w.heap.size + 1 by rw [hW0]; simp)
  rw [← hW0]
  clear hW0
  have BB := Lib.hid (Below.refl W0.heap.size W0)
  refine (K.out _ B.out).mono ?_
  rintro e w1 ⟨rfl, bw1⟩
  replace B := Lib.hid (B.out.trans (bw1.mono B.out.size))
  replace BB := Lib.hid (BB.out.trans (bw1.mono BB.out.size))
  clear bw1
  have c0_x := (D_x.out.below BB.out).c0
  have c1_x := (D_x.out.below BB.out).c1
  have c2_x := (D_x.out.below BB.out).c2
  go_wp2
  go_ret
  exact ⟨_, rfl, Rx.new _ _ _ _ _, B.out.size, B.out.alloc B.out.size _⟩


set_option maxRecDepth 100000 in
set_option maxHeartbeats 1000000 in
theorem impl_start_no (b : Bool) (v : Value) (zs : List Int) (d : Value) (ds : List Int) (w : World) (h : RowR w v zs d ds) (hq : ratOk b zs ds = false) :
    Calls Try.prog 77 #[.agg #[.bool b, v, d]] w fun r w' => ∃ p, r = .returned (.pointer (some ⟨p, 0, none⟩)) ∧ Rx w' p 85 false (.slice none 0 0) (.slice none 0 0) ∧ w.heap.size ≤ p ∧ Below w.heap.size w w' := by
  have K := Lib.hid (fun W (hW : Below w.heap.size w W) => impl_ratOkR b v zs d ds false W (h.below hW) hq)
  obtain ⟨⟨a, c, rfl, h1, h2, h3⟩, ⟨e, f, rfl, h4, h5, h6⟩⟩ := h
  clear h1 h2 h3 h4 h5 h6 hq
  obtain ⟨n, hn⟩ : ∃ n, zs.length = n := ⟨_, rfl⟩
  obtain ⟨m, hm⟩ : ∃ n, ds.length = n := ⟨_, rfl⟩
  rw [hn, hm] at K
  try rw [hn, hm]
  clear hn hm
  try rw [hn]
  try rw [hm]
  go_enter Try.func77, Try.ntmps77
  go_wp2_with fail
  obtain ⟨W0, hW0⟩ : ∃ x, x = (w.alloc (.cells #[.bool b, .slice a n c, .slice e m f] 31)) := ⟨_, rfl⟩
  have B := Lib.hid (show Below w.heap.size w W0 by rw [hW0]; exact ((Below.refl _ _).alloc (Nat.le_refl _) _))
  have D_x := Lib.hid (rx_at (show Rx W0 _ 31 (b) (.slice a n c) (.slice e m f) by rw [hW0]; exact Rx.new _ _ _ _ _) (show w.heap.size = _ by simp))
  have SZ := Lib.hid (show W0.heap.size = w.heap.size + 1 by rw [hW0]; simp)
  rw [← hW0]
  clear hW0
  have BB := Lib.hid (Below.refl W0.heap.size W0)
  refine (K.out _ B.out).mono ?_
  rintro e w1 ⟨rfl, bw1⟩
  replace B := Lib.hid (B.out.trans (bw1.mono B.out.size))
  replace BB := Lib.hid (BB.out.trans (bw1.mono BB.out.size))
  clear bw1
  have c0_x := (D_x.out.below BB.out).c0
  have c1_x := (D_x.out.below BB.out).c1
  have c2_x := (D_x.out.below BB.out).c2
  go_wp2
  go_ret
  exact ⟨_, rfl, Rx.new _ _ _ _ _, B.out.size, B.out.alloc B.out.size _⟩


set_option maxRecDepth 100000 in
set_option maxHeartbeats 2000000 in
theorem impl_fold_zero (p g : Nat) (op : Value) (b1 : Bool) (a1 : Option Addr) (ny c1 : Nat) (e1 : Option Addr) (ne f1 : Nat) (w : World) (D : Rx w p 85 false (.slice none 0 0) (.slice none 0 0)) (L : Rx w g 31 b1 (.slice a1 ny c1) (.slice e1 ne f1)) (hpg : p ≠ g)  :
    Calls Try.prog 78 #[.pointer (some ⟨p, 0, none⟩), op, .slice (some ⟨g, 0, none⟩) 1 1] w fun r w' => r = .returned (.agg #[.bool false, .slice none 0 0, .slice none 0 0]) ∧ Below w.heap.size w w' := by
  go_enter Try.func78, Try.ntmps78
  go_wp2
  obtain ⟨W0, hW0⟩ : ∃ x, x = (w.alloc (.cells #[.bool false, .slice none 0 0, .slice none 0 0] 31)) := ⟨_, rfl⟩
  have B := Lib.hid (show Below w.heap.size w W0 by rw [hW0]; exact ((Below.refl _ _).alloc (Nat.le_refl _) _))
  have D_r := Lib.hid (rx_at (show Rx W0 _ 31 (false) (.slice none 0 0) (.slice none 0 0) by rw [hW0]; exact Rx.new _ _ _ _ _) (show w.heap.size = _ by simp))
  have SZ := Lib.hid (show W0.heap.size = w.heap.size + 1 by rw [hW0]; simp)
  rw [← hW0]
  clear hW0
  have BB := Lib.hid (Below.refl W0.heap.size W0)
  have D_p := Lib.hid (D.below B.out)
  have D_g := Lib.hid (L.below B.out)
  have BX := B.out.alloc B.out.size (.cells #[.bool b1, .slice a1 ny c1, .slice e1 ne f1] 31)
  have DR := D_r.out.alloc (.cells #[.bool b1, .slice a1 ny c1, .slice e1 ne f1] 31)
  have k2 := (D_p.out.alloc (.cells #[.bool b1, .slice a1 ny c1, .slice e1 ne f1] 31)).c2
  have r0 := DR.f 0; have r1 := DR.f 1; have r2 := DR.f 2; have z0 := DR.c0; have z1 := DR.c1; have z2 := DR.c2
  have c0_r := (D_r.out.below BB.out).c0
  have c1_r := (D_r.out.below BB.out).c1
  have c2_r := (D_r.out.below BB.out).c2
  have f0_r := (D_r.out.below BB.out).f 0
  have f1_r := (D_r.out.below BB.out).f 1
  have f2_r := (D_r.out.below BB.out).f 2
  have l0 := D_g.out.c0; have l1 := D_g.out.c1; have l2 := D_g.out.c2
  refine wp_loop_rounds 1 ?_
  rw [rounds_succ]
  go_wp2
  have D8 := Rx.set3 (b' := false) (v' := .slice none 0 0) (d' := .slice none 0 0) (DR)
  have hc0 := D8.c0
  have hc1 := D8.c1
  have hc2 := D8.c2
  exact bodyPost_ret (v := .agg #[.bool false, .slice none 0 0, .slice none 0 0]) (by simp [results, Try.results78, go_sem, hc0, hc1, hc2]) rfl ⟨rfl, (((BX).setCell (p := ⟨w.heap.size, 0, none⟩) (Nat.le_refl _) _).setCell (p := ⟨w.heap.size, 1, none⟩) (Nat.le_refl _) _).setCell (p := ⟨w.heap.size, 2, none⟩) (Nat.le_refl _) _⟩


set_option maxRecDepth 100000 in
set_option maxHeartbeats 2000000 in
theorem impl_fold_bad (p g : Nat) (op : Value) (b0 : Bool) (a0 : Option Addr) (nx c0 : Nat) (e0 : Option Addr) (nd f0 : Nat) (b1 : Bool) (a1 : Option Addr) (ny c1 : Nat) (e1 : Option Addr) (ne f1 : Nat) (zs ds : List Int) (w : World) (D : Rx w p 85 b0 (.slice a0 nx c0) (.slice e0 nd f0)) (L : Rx w g 31 b1 (.slice a1 ny c1) (.slice e1 ne f1)) (hpg : p ≠ g) (hr : RowR w (.slice a1 ny c1) zs (.slice e1 ne f1) ds) (hq : ratOk b1 zs ds = false) (hnd : 0 < nd) :
    Calls Try.prog 78 #[.pointer (some ⟨p, 0, none⟩), op, .slice (some ⟨g, 0, none⟩) 1 1] w fun r w' => r = .returned (.agg #[.bool false, .slice none 0 0, .slice none 0 0]) ∧ Below w.heap.size w w' := by
  have K := Lib.hid (fun W (hW : Below w.heap.size w W) => impl_ratOkR b1 _ zs _ ds false W (hr.below hW) hq)
  have hz : ((nd : Int) == 0) = false := by simp; omega
  clear hr hq hnd
  go_enter Try.func78, Try.ntmps78
  go_wp2
  obtain ⟨W0, hW0⟩ : ∃ x, x = (w.alloc (.cells #[.bool false, .slice none 0 0, .slice none 0 0] 31)) := ⟨_, rfl⟩
  have B := Lib.hid (show Below w.heap.size w W0 by rw [hW0]; exact ((Below.refl _ _).alloc (Nat.le_refl _) _))
  have D_r := Lib.hid (rx_at (show Rx W0 _ 31 (false) (.slice none 0 0) (.slice none 0 0) by rw [hW0]; exact Rx.new _ _ _ _ _) (show w.heap.size = _ by simp))
  have SZ := Lib.hid (show W0.heap.size = w.heap.size + 1 by rw [hW0]; simp)
  rw [← hW0]
  clear hW0
  have BB := Lib.hid (Below.refl W0.heap.size W0)
  have D_p := Lib.hid (D.below B.out)
  have D_g := Lib.hid (L.below B.out)
  have l0 := D_g.out.c0; have l1 := D_g.out.c1; have l2 := D_g.out.c2
  have k2 := (D_p.out.alloc (.cells #[.bool b1, .slice a1 ny c1, .slice e1 ne f1] 31)).c2
  refine wp_loop_rounds 2 ?_
  rw [rounds_succ]
  go_wp2_with fail
  clear l0 l1 l2 k2
  obtain ⟨W1, hW1⟩ : ∃ x, x = W0.alloc (.cells #[.bool b1, .slice a1 ny c1, .slice e1 ne f1] 31) := ⟨_, rfl⟩
  have D_s := Lib.hid (show Rx W1 W0.heap.size 31 b1 (.slice a1 ny c1) (.slice e1 ne f1) by rw [hW1]; exact Rx.new _ _ _ _ _)
  replace BB := Lib.hid (show Below W0.heap.size W0 W1 by rw [hW1]; exact (Below.refl _ _).alloc (Nat.le_refl _) _)
  replace B := Lib.hid (B.out.trans (BB.out.mono B.out.size))
  have SZ1 := Lib.hid (show W1.heap.size = W0.heap.size + 1 by rw [hW1]; simp)
  rw [← hW1]
  clear hW1
  refine (K.out _ B.out).mono ?_
  rintro e w1 ⟨rfl, bw⟩
  have BB1 := Lib.hid (BB.out.trans (bw.mono BB.out.size))
  have B1 := Lib.hid (B.out.trans (bw.mono B.out.size))
  replace D_s := Lib.hid (D_s.out.below bw)
  clear bw
  have DR := D_r.out.below BB1.out
  have DP := D_p.out.below BB1.out
  have r0 := DR.f 0; have r1 := DR.f 1; have r2 := DR.f 2; have z0 := DR.c0; have z1 := DR.c1; have z2 := DR.c2
  have y0 := D_s.out.c0; have y1 := D_s.out.c1; have y2 := D_s.out.c2
  go_wp2
  have D8 := Rx.set3 (b' := false) (v' := .slice none 0 0) (d' := .slice none 0 0) (DR)
  have hc0 := D8.c0
  have hc1 := D8.c1
  have hc2 := D8.c2
  exact bodyPost_ret (v := .agg #[.bool false, .slice none 0 0, .slice none 0 0]) (by simp [results, Try.results78, go_sem, hc0, hc1, hc2]) rfl ⟨rfl, (((B1.out).setCell (p := ⟨w.heap.size, 0, none⟩) (Nat.le_refl _) _).setCell (p := ⟨w.heap.size, 1, none⟩) (Nat.le_refl _) _).setCell (p := ⟨w.heap.size, 2, none⟩) (Nat.le_refl _) _⟩


set_option maxRecDepth 100000 in
set_option maxHeartbeats 2000000 in
theorem impl_foldAdd (p g : Nat) (Φ : World → Bool → Value → Value → Prop) (b0 : Bool) (a0 : Option Addr) (nx c0 : Nat) (e0 : Option Addr) (nd f0 : Nat) (b1 : Bool) (a1 : Option Addr) (ny c1 : Nat) (e1 : Option Addr) (ne f1 : Nat) (zs ds : List Int) (w : World) (D : Rx w p 85 b0 (.slice a0 nx c0) (.slice e0 nd f0)) (L : Rx w g 31 b1 (.slice a1 ny c1) (.slice e1 ne f1)) (hpg : p ≠ g) (hr : RowR w (.slice a1 ny c1) zs (.slice e1 ne f1) ds) (hq : ratOk b1 zs ds = true) (hnd : 0 < nd)
    (HOP : ∀ W, Below w.heap.size w W → Calls Try.prog 79 #[.pointer (some ⟨p, 0, none⟩), .agg #[.bool b1, .slice a1 ny c1, .slice e1 ne f1]] W fun r w' => (∃ q, r = .returned q) ∧ (∃ b a n c e m f, Rx w' p 85 b (.slice a n c) (.slice e m f) ∧ Φ w' b (.slice a n c) (.slice e m f)) ∧ W.grownBy w' (some p)) :
    Calls Try.prog 78 #[.pointer (some ⟨p, 0, none⟩), (.func (.func 79) #[.pointer (some ⟨p, 0, none⟩)] #[]), .slice (some ⟨g, 0, none⟩) 1 1] w fun r w' => ∃ b v d, r = .returned (.agg #[.bool b, v, d]) ∧ (∃ w1 q b2 v2 d2, Φ w1 b v d ∧ Rx w1 q 31 b2 v2 d2 ∧ w.heap.size ≤ q ∧ w' = ((w1.setCell ⟨q, 0, none⟩ (.bool b)).setCell ⟨q, 1, none⟩ v).setCell ⟨q, 2, none⟩ d) ∧ w.grownBy w' (some p) := by
  have K := Lib.hid (fun W (hW : Below w.heap.size w W) => impl_ratOkR b1 _ zs _ ds true W (hr.below hW) hq)
  have hz : ((nd : Int) == 0) = false := by simp; omega
  have HP := Lib.hid D.lt
  have HO := Lib.hid HOP
  clear hr hq hnd HOP
  go_enter Try.func78, Try.ntmps78
  go_wp2
  obtain ⟨W0, hW0⟩ : ∃ x, x = (w.alloc (.cells #[.bool false, .slice none 0 0, .slice none 0 0] 31)) := ⟨_, rfl⟩
  have B := Lib.hid (show Below w.heap.size w W0 by rw [hW0]; exact ((Below.refl _ _).alloc (Nat.le_refl _) _))
  have D_r := Lib.hid (rx_at (show Rx W0 _ 31 (false) (.slice none 0 0) (.slice none 0 0) by rw [hW0]; exact Rx.new _ _ _ _ _) (show w.heap.size = _ by simp))
  have SZ := Lib.hid (show W0.heap.size = w.heap.size + 1 by rw [hW0]; simp)
  rw [← hW0]
  clear hW0
  have BB := Lib.hid (Below.refl W0.heap.size W0)
  have D_p := Lib.hid (D.below B.out)
  have D_g := Lib.hid (L.below B.out)
  have l0 := D_g.out.c0; have l1 := D_g.out.c1; have l2 := D_g.out.c2
  have k2 := (D_p.out.alloc (.cells #[.bool b1, .slice a1 ny c1, .slice e1 ne f1] 31)).c2
  refine wp_loop_rounds 2 ?_
  rw [rounds_succ]
  go_wp2_with fail
  clear l0 l1 l2 k2
  obtain ⟨W1, hW1⟩ : ∃ x, x = W0.alloc (.cells #[.bool b1, .slice a1 ny c1, .slice e1 ne f1] 31) := ⟨_, rfl⟩
  have D_s := Lib.hid (show Rx W1 W0.heap.size 31 b1 (.slice a1 ny c1) (.slice e1 ne f1) by rw [hW1]; exact Rx.new _ _ _ _ _)
  replace BB := Lib.hid (show Below W0.heap.size W0 W1 by rw [hW1]; exact (Below.refl _ _).alloc (Nat.le_refl _) _)
  replace B := Lib.hid (B.out.trans (BB.out.mono B.out.size))
  have SZ1 := Lib.hid (show W1.heap.size = W0.heap.size + 1 by rw [hW1]; simp)
  rw [← hW1]
  clear hW1
  refine (K.out _ B.out).mono ?_
  rintro e w1 ⟨rfl, bw⟩
  have BB1 := Lib.hid (BB.out.trans (bw.mono BB.out.size))
  have B1 := Lib.hid (B.out.trans (bw.mono B.out.size))
  replace D_s := Lib.hid (D_s.out.below bw)
  clear bw
  have DR := D_r.out.below BB1.out
  have DP := D_p.out.below BB1.out
  have r0 := DR.f 0; have r1 := DR.f 1; have r2 := DR.f 2; have z0 := DR.c0; have z1 := DR.c1; have z2 := DR.c2
  have y0 := D_s.out.c0; have y1 := D_s.out.c1; have y2 := D_s.out.c2
  go_wp2_with fail
  clear r0 r1 r2 z0 z1 z2 y0 y1 y2
  refine (HO.out _ B1.out).mono ?_
  rintro e w2 ⟨⟨q9, rfl⟩, ⟨b9, a9, n9, c9, e9, m9, f9, DP9, hΦ⟩, g9⟩
  have DR9 := DR.kept g9 (by intro h; injection h with h; have := HP.out; omega)
  have G2 := grownBy_trans (grownBy_of_below B1.out (some p)) g9
  have r0 := DR9.f 0; have r1 := DR9.f 1; have r2 := DR9.f 2; have z0 := DR9.c0; have z1 := DR9.c1; have z2 := DR9.c2
  have y0 := DP9.c0; have y1 := DP9.c1; have y2 := DP9.c2
  go_wp2_with fail
  rw [rounds_succ]
  go_wp2
  have G3 := grownBy_own3 G2 (.bool b9) (.slice a9 n9 c9) (.slice e9 m9 f9)
  have D8 := Rx.set3 (b' := b9) (v' := .slice a9 n9 c9) (d' := .slice e9 m9 f9) (DR9)
  have hc0 := D8.c0
  have hc1 := D8.c1
  have hc2 := D8.c2
  exact bodyPost_ret (v := .agg #[.bool b9, .slice a9 n9 c9, .slice e9 m9 f9]) (by simp [results, Try.results78, go_sem, hc0, hc1, hc2]) rfl ⟨_, _, _, rfl, ⟨w2, w.heap.size, _, _, _, hΦ, DR9, Nat.le_refl _, rfl⟩, G3⟩


set_option maxRecDepth 100000 in
set_option maxHeartbeats 2000000 in
theorem impl_foldSub (p g : Nat) (Φ : World → Bool → Value → Value → Prop) (b0 : Bool) (a0 : Option Addr) (nx c0 : Nat) (e0 : Option Addr) (nd f0 : Nat) (b1 : Bool) (a1 : Option Addr) (ny c1 : Nat) (e1 : Option Addr) (ne f1 : Nat) (zs ds : List Int) (w : World) (D : Rx w p 85 b0 (.slice a0 nx c0) (.slice e0 nd f0)) (L : Rx w g 31 b1 (.slice a1 ny c1) (.slice e1 ne f1)) (hpg : p ≠ g) (hr : RowR w (.slice a1 ny c1) zs (.slice e1 ne f1) ds) (hq : ratOk b1 zs ds = true) (hnd : 0 < nd)
    (HOP : ∀ W, Below w.heap.size w W → Calls Try.prog 82 #[.pointer (some ⟨p, 0, none⟩), .agg #[.bool b1, .slice a1 ny c1, .slice e1 ne f1]] W fun r w' => (∃ q, r = .returned q) ∧ (∃ b a n c e m f, Rx w' p 85 b (.slice a n c) (.slice e m f) ∧ Φ w' b (.slice a n c) (.slice e m f)) ∧ W.grownBy w' (some p)) :
    Calls Try.prog 78 #[.pointer (some ⟨p, 0, none⟩), (.func (.func 82) #[.pointer (some ⟨p, 0, none⟩)] #[]), .slice (some ⟨g, 0, none⟩) 1 1] w fun r w' => ∃ b v d, r = .returned (.agg #[.bool b, v, d]) ∧ (∃ w1 q b2 v2 d2, Φ w1 b v d ∧ Rx w1 q 31 b2 v2 d2 ∧ w.heap.size ≤ q ∧ w' = ((w1.setCell ⟨q, 0, none⟩ (.bool b)).setCell ⟨q, 1, none⟩ v).setCell ⟨q, 2, none⟩ d) ∧ w.grownBy w' (some p) := by
  have K := Lib.hid (fun W (hW : Below w.heap.size w W) => impl_ratOkR b1 _ zs _ ds true W (hr.below hW) hq)
  have hz : ((nd : Int) == 0) = false := by simp; omega
  have HP := Lib.hid D.lt
  have HO := Lib.hid HOP
  clear hr hq hnd HOP
  go_enter Try.func78, Try.ntmps78
  go_wp2
  obtain ⟨W0, hW0⟩ : ∃ x, x = (w.alloc (.cells #[.bool false, .slice none 0 0, .slice none 0 0] 31)) := ⟨_, rfl⟩
  have B := Lib.hid (show Below w.heap.size w W0 by rw [hW0]; exact ((Below.refl _ _).alloc (Nat.le_refl _) _))
  have D_r := Lib.hid (rx_at (show Rx W0 _ 31 (false) (.slice none 0 0) (.slice none 0 0) by rw [hW0]; exact Rx.new _ _ _ _ _) (show w.heap.size = _ by simp))
  have SZ := Lib.hid (show W0.heap.size = w.heap.size + 1 by rw [hW0]; simp)
  rw [← hW0]
  clear hW0
  have BB := Lib.hid (Below.refl W0.heap.size W0)
  have D_p := Lib.hid (D.below B.out)
  have D_g := Lib.hid (L.below B.out)
  have l0 := D_g.out.c0; have l1 := D_g.out.c1; have l2 := D_g.out.c2
  have k2 := (D_p.out.alloc (.cells #[.bool b1, .slice a1 ny c1, .slice e1 ne f1] 31)).c2
  refine wp_loop_rounds 2 ?_
  rw [rounds_succ]
  go_wp2_with fail
  clear l0 l1 l2 k2
  obtain ⟨W1, hW1⟩ : ∃ x, x = W0.alloc (.cells #[.bool b1, .slice a1 ny c1, .slice e1 ne f1] 31) := ⟨_, rfl⟩
  have D_s := Lib.hid (show Rx W1 W0.heap.size 31 b1 (.slice a1 ny c1) (.slice e1 ne f1) by rw [hW1]; exact Rx.new _ _ _ _ _)
  replace BB := Lib.hid (show Below W0.heap.size W0 W1 by rw [hW1]; exact (Below.refl _ _).alloc (Nat.le_refl _) _)
  replace B := Lib.hid (B.out.trans (BB.out.mono B.out.size))
  have SZ1 := Lib.hid (show W1.heap.size = W0.heap.size + 1 by rw [hW1]; simp)
  rw [← hW1]
  clear hW1
  refine (K.out _ B.out).mono ?_
  rintro e w1 ⟨rfl, bw⟩
  have BB1 := Lib.hid (BB.out.trans (bw.mono BB.out.size))
  have B1 := Lib.hid (B.out.trans (bw.mono B.out.size))
  replace D_s := Lib.hid (D_s.out.below bw)
  clear bw
  have DR := D_r.out.below BB1.out
  have DP := D_p.out.below BB1.out
  have r0 := DR.f 0; have r1 := DR.f 1; have r2 := DR.f 2; have z0 := DR.c0; have z1 := DR.c1; have z2 := DR.c2
  have y0 := D_s.out.c0; have y1 := D_s.out.c1; have y2 := D_s.out.c2
  go_wp2_with fail
  clear r0 r1 r2 z0 z1 z2 y0 y1 y2
  refine (HO.out _ B1.out).mono ?_
  rintro e w2 ⟨⟨q9, rfl⟩, ⟨b9, a9, n9, c9, e9, m9, f9, DP9, hΦ⟩, g9⟩
  have DR9 := DR.kept g9 (by intro h; injection h with h; have := HP.out; omega)
  have G2 := grownBy_trans (grownBy_of_below B1.out (some p)) g9
  have r0 := DR9.f 0; have r1 := DR9.f 1; have r2 := DR9.f 2; have z0 := DR9.c0; have z1 := DR9.c1; have z2 := DR9.c2
  have y0 := DP9.c0; have y1 := DP9.c1; have y2 := DP9.c2
  go_wp2_with fail
  rw [rounds_succ]
  go_wp2
  have G3 := grownBy_own3 G2 (.bool b9) (.slice a9 n9 c9) (.slice e9 m9 f9)
  have D8 := Rx.set3 (b' := b9) (v' := .slice a9 n9 c9) (d' := .slice e9 m9 f9) (DR9)
  have hc0 := D8.c0
  have hc1 := D8.c1
  have hc2 := D8.c2
  exact bodyPost_ret (v := .agg #[.bool b9, .slice a9 n9 c9, .slice e9 m9 f9]) (by simp [results, Try.results78, go_sem, hc0, hc1, hc2]) rfl ⟨_, _, _, rfl, ⟨w2, w.heap.size, _, _, _, hΦ, DR9, Nat.le_refl _, rfl⟩, G3⟩


set_option maxRecDepth 100000 in
set_option maxHeartbeats 2000000 in
theorem impl_foldMul (p g : Nat) (Φ : World → Bool → Value → Value → Prop) (b0 : Bool) (a0 : Option Addr) (nx c0 : Nat) (e0 : Option Addr) (nd f0 : Nat) (b1 : Bool) (a1 : Option Addr) (ny c1 : Nat) (e1 : Option Addr) (ne f1 : Nat) (zs ds : List Int) (w : World) (D : Rx w p 85 b0 (.slice a0 nx c0) (.slice e0 nd f0)) (L : Rx w g 31 b1 (.slice a1 ny c1) (.slice e1 ne f1)) (hpg : p ≠ g) (hr : RowR w (.slice a1 ny c1) zs (.slice e1 ne f1) ds) (hq : ratOk b1 zs ds = true) (hnd : 0 < nd)
    (HOP : ∀ W, Below w.heap.size w W → Calls Try.prog 84 #[.pointer (some ⟨p, 0, none⟩), .agg #[.bool b1, .slice a1 ny c1, .slice e1 ne f1]] W fun r w' => (∃ q, r = .returned q) ∧ (∃ b a n c e m f, Rx w' p 85 b (.slice a n c) (.slice e m f) ∧ Φ w' b (.slice a n c) (.slice e m f)) ∧ W.grownBy w' (some p)) :
    Calls Try.prog 78 #[.pointer (some ⟨p, 0, none⟩), (.func (.func 84) #[.pointer (some ⟨p, 0, none⟩)] #[]), .slice (some ⟨g, 0, none⟩) 1 1] w fun r w' => ∃ b v d, r = .returned (.agg #[.bool b, v, d]) ∧ (∃ w1 q b2 v2 d2, Φ w1 b v d ∧ Rx w1 q 31 b2 v2 d2 ∧ w.heap.size ≤ q ∧ w' = ((w1.setCell ⟨q, 0, none⟩ (.bool b)).setCell ⟨q, 1, none⟩ v).setCell ⟨q, 2, none⟩ d) ∧ w.grownBy w' (some p) := by
  have K := Lib.hid (fun W (hW : Below w.heap.size w W) => impl_ratOkR b1 _ zs _ ds true W (hr.below hW) hq)
  have hz : ((nd : Int) == 0) = false := by simp; omega
  have HP := Lib.hid D.lt
  have HO := Lib.hid HOP
  clear hr hq hnd HOP
  go_enter Try.func78, Try.ntmps78
  go_wp2
  obtain ⟨W0, hW0⟩ : ∃ x, x = (w.alloc (.cells #[.bool false, .slice none 0 0, .slice none 0 0] 31)) := ⟨_, rfl⟩
  have B := Lib.hid (show Below w.heap.size w W0 by rw [hW0]; exact ((Below.refl _ _).alloc (Nat.le_refl _) _))
  have D_r := Lib.hid (rx_at (show Rx W0 _ 31 (false) (.slice none 0 0) (.slice none 0 0) by rw [hW0]; exact Rx.new _ _ _ _ _) (show w.heap.size = _ by simp))
  have SZ := Lib.hid (show W0.heap.size = w.heap.size + 1 by rw [hW0]; simp)
  rw [← hW0]
  clear hW0
  have BB := Lib.hid (Below.refl W0.heap.size W0)
  have D_p := Lib.hid (D.below B.out)
  have D_g := Lib.hid (L.below B.out)
  have l0 := D_g.out.c0; have l1 := D_g.out.c1; have l2 := D_g.out.c2
  have k2 := (D_p.out.alloc (.cells #[.bool b1, .slice a1 ny c1, .slice e1 ne f1] 31)).c2
  refine wp_loop_rounds 2 ?_
  rw [rounds_succ]
  go_wp2_with fail
  clear l0 l1 l2 k2
  obtain ⟨W1, hW1⟩ : ∃ x, x = W0.alloc (.cells #[.bool b1, .slice a1 ny c1, .slice e1 ne f1] 31) := ⟨_, rfl⟩
  have D_s := Lib.hid (show Rx W1 W0.heap.size 31 b1 (.slice a1 ny c1) (.slice e1 ne f1) by rw [hW1]; exact Rx.new _ _ _ _ _)
  replace BB := Lib.hid (show Below W0.heap.size W0 W1 by rw [hW1]; exact (Below.refl _ _).alloc (Nat.le_refl _) _)
  replace B := Lib.hid (B.out.trans (BB.out.mono B.out.size))
  have SZ1 := Lib.hid (show W1.heap.size = W0.heap.size + 1 by rw [hW1]; simp)
  rw [← hW1]
  clear hW1
  refine (K.out _ B.out).mono ?_
  rintro e w1 ⟨rfl, bw⟩
  have BB1 := Lib.hid (BB.out.trans (bw.mono BB.out.size))
  have B1 := Lib.hid (B.out.trans (bw.mono B.out.size))
  replace D_s := Lib.hid (D_s.out.below bw)
  clear bw
  have DR := D_r.out.below BB1.out
  have DP := D_p.out.below BB1.out
  have r0 := DR.f 0; have r1 := DR.f 1; have r2 := DR.f 2; have z0 := DR.c0; have z1 := DR.c1; have z2 := DR.c2
  have y0 := D_s.out.c0; have y1 := D_s.out.c1; have y2 := D_s.out.c2
  go_wp2_with fail
  clear r0 r1 r2 z0 z1 z2 y0 y1 y2
  refine (HO.out _ B1.out).mono ?_
  rintro e w2 ⟨⟨q9, rfl⟩, ⟨b9, a9, n9, c9, e9, m9, f9, DP9, hΦ⟩, g9⟩
  have DR9 := DR.kept g9 (by intro h; injection h with h; have := HP.out; omega)
  have G2 := grownBy_trans (grownBy_of_below B1.out (some p)) g9
  have r0 := DR9.f 0; have r1 := DR9.f 1; have r2 := DR9.f 2; have z0 := DR9.c0; have z1 := DR9.c1; have z2 := DR9.c2
  have y0 := DP9.c0; have y1 := DP9.c1; have y2 := DP9.c2
  go_wp2_with fail
  rw [rounds_succ]
  go_wp2
  have G3 := grownBy_own3 G2 (.bool b9) (.slice a9 n9 c9) (.slice e9 m9 f9)
  have D8 := Rx.set3 (b' := b9) (v' := .slice a9 n9 c9) (d' := .slice e9 m9 f9) (DR9)
  have hc0 := D8.c0
  have hc1 := D8.c1
  have hc2 := D8.c2
  exact bodyPost_ret (v := .agg #[.bool b9, .slice a9 n9 c9, .slice e9 m9 f9]) (by simp [results, Try.results78, go_sem, hc0, hc1, hc2]) rfl ⟨_, _, _, rfl, ⟨w2, w.heap.size, _, _, _, hΦ, DR9, Nat.le_refl _, rfl⟩, G3⟩


set_option maxRecDepth 100000 in
set_option maxHeartbeats 2000000 in
theorem impl_foldDiv (p g : Nat) (Φ : World → Bool → Value → Value → Prop) (b0 : Bool) (a0 : Option Addr) (nx c0 : Nat) (e0 : Option Addr) (nd f0 : Nat) (b1 : Bool) (a1 : Option Addr) (ny c1 : Nat) (e1 : Option Addr) (ne f1 : Nat) (zs ds : List Int) (w : World) (D : Rx w p 85 b0 (.slice a0 nx c0) (.slice e0 nd f0)) (L : Rx w g 31 b1 (.slice a1 ny c1) (.slice e1 ne f1)) (hpg : p ≠ g) (hr : RowR w (.slice a1 ny c1) zs (.slice e1 ne f1) ds) (hq : ratOk b1 zs ds = true) (hnd : 0 < nd)
    (HOP : ∀ W, Below w.heap.size w W → Calls Try.prog 86 #[.pointer (some ⟨p, 0, none⟩), .agg #[.bool b1, .slice a1 ny c1, .slice e1 ne f1]] W fun r w' => (∃ q, r = .returned q) ∧ (∃ b a n c e m f, Rx w' p 85 b (.slice a n c) (.slice e m f) ∧ Φ w' b (.slice a n c) (.slice e m f)) ∧ W.grownBy w' (some p)) :
    Calls Try.prog 78 #[.pointer (some ⟨p, 0, none⟩), (.func (.func 86) #[.pointer (some ⟨p, 0, none⟩)] #[]), .slice (some ⟨g, 0, none⟩) 1 1] w fun r w' => ∃ b v d, r = .returned (.agg #[.bool b, v, d]) ∧ (∃ w1 q b2 v2 d2, Φ w1 b v d ∧ Rx w1 q 31 b2 v2 d2 ∧ w.heap.size ≤ q ∧ w' = ((w1.setCell ⟨q, 0, none⟩ (.bool b)).setCell ⟨q, 1, none⟩ v).setCell ⟨q, 2, none⟩ d) ∧ w.grownBy w' (some p) := by
  have K := Lib.hid (fun W (hW : Below w.heap.size w W) => impl_ratOkR b1 _ zs _ ds true W (hr.below hW) hq)
  have hz : ((nd : Int) == 0) = false := by simp; omega
  have HP := Lib.hid D.lt
  have HO := Lib.hid HOP
  clear hr hq hnd HOP
  go_enter Try.func78, Try.ntmps78
  go_wp2
  obtain ⟨W0, hW0⟩ : ∃ x, x = (w.alloc (.cells #[.bool false, .slice none 0 0, .slice none 0 0] 31)) := ⟨_, rfl⟩
  have B := Lib.hid (show Below w.heap.size w W0 by rw [hW0]; exact ((Below.refl _ _).alloc (Nat.le_refl _) _))
  have D_r := Lib.hid (rx_at (show Rx W0 _ 31 (false) (.slice none 0 0) (.slice none 0 0) by rw [hW0]; exact Rx.new _ _ _ _ _) (show w.heap.size = _ by simp))
  have SZ := Lib.hid (show W0.heap.size = w.heap.size + 1 by rw [hW0]; simp)
  rw [← hW0]
  clear hW0
  have BB := Lib.hid (Below.refl W0.heap.size W0)
  have D_p := Lib.hid (D.below B.out)
  have D_g := Lib.hid (L.below B.out)
  have l0 := D_g.out.c0; have l1 := D_g.out.c1; have l2 := D_g.out.c2
  have k2 := (D_p.out.alloc (.cells #[.bool b1, .slice a1 ny c1, .slice e1 ne f1] 31)).c2
  refine wp_loop_rounds 2 ?_
  rw [rounds_succ]
  go_wp2_with fail
  clear l0 l1 l2 k2
  obtain ⟨W1, hW1⟩ : ∃ x, x = W0.alloc (.cells #[.bool b1, .slice a1 ny c1, .slice e1 ne f1] 31) := ⟨_, rfl⟩
  have D_s := Lib.hid (show Rx W1 W0.heap.size 31 b1 (.slice a1 ny c1) (.slice e1 ne f1) by rw [hW1]; exact Rx.new _ _ _ _ _)
  replace BB := Lib.hid (show Below W0.heap.size W0 W1 by rw [hW1]; exact (Below.refl _ _).alloc (Nat.le_refl _) _)
  replace B := Lib.hid (B.out.trans (BB.out.mono B.out.size))
  have SZ1 := Lib.hid (show W1.heap.size = W0.heap.size + 1 by rw [hW1]; simp)
  rw [← hW1]
  clear hW1
  refine (K.out _ B.out).mono ?_
  rintro e w1 ⟨rfl, bw⟩
  have BB1 := Lib.hid (BB.out.trans (bw.mono BB.out.size))
  have B1 := Lib.hid (B.out.trans (bw.mono B.out.size))
  replace D_s := Lib.hid (D_s.out.below bw)
  clear bw
  have DR := D_r.out.below BB1.out
  have DP := D_p.out.below BB1.out
  have r0 := DR.f 0; have r1 := DR.f 1; have r2 := DR.f 2; have z0 := DR.c0; have z1 := DR.c1; have z2 := DR.c2
  have y0 := D_s.out.c0; have y1 := D_s.out.c1; have y2 := D_s.out.c2
  go_wp2_with fail
  clear r0 r1 r2 z0 z1 z2 y0 y1 y2
  refine (HO.out _ B1.out).mono ?_
  rintro e w2 ⟨⟨q9, rfl⟩, ⟨b9, a9, n9, c9, e9, m9, f9, DP9, hΦ⟩, g9⟩
  have DR9 := DR.kept g9 (by intro h; injection h with h; have := HP.out; omega)
  have G2 := grownBy_trans (grownBy_of_below B1.out (some p)) g9
  have r0 := DR9.f 0; have r1 := DR9.f 1; have r2 := DR9.f 2; have z0 := DR9.c0; have z1 := DR9.c1; have z2 := DR9.c2
  have y0 := DP9.c0; have y1 := DP9.c1; have y2 := DP9.c2
  go_wp2_with fail
  rw [rounds_succ]
  go_wp2
  have G3 := grownBy_own3 G2 (.bool b9) (.slice a9 n9 c9) (.slice e9 m9 f9)
  have D8 := Rx.set3 (b' := b9) (v' := .slice a9 n9 c9) (d' := .slice e9 m9 f9) (DR9)
  have hc0 := D8.c0
  have hc1 := D8.c1
  have hc2 := D8.c2
  exact bodyPost_ret (v := .agg #[.bool b9, .slice a9 n9 c9, .slice e9 m9 f9]) (by simp [results, Try.results78, go_sem, hc0, hc1, hc2]) rfl ⟨_, _, _, rfl, ⟨w2, w.heap.size, _, _, _, hΦ, DR9, Nat.le_refl _, rfl⟩, G3⟩


set_option maxRecDepth 100000 in
set_option maxHeartbeats 2000000 in
theorem impl_foldLess (p g : Nat) (Φ : World → Bool → Value → Value → Prop) (b0 : Bool) (a0 : Option Addr) (nx c0 : Nat) (e0 : Option Addr) (nd f0 : Nat) (b1 : Bool) (a1 : Option Addr) (ny c1 : Nat) (e1 : Option Addr) (ne f1 : Nat) (zs ds : List Int) (w : World) (D : Rx w p 85 b0 (.slice a0 nx c0) (.slice e0 nd f0)) (L : Rx w g 31 b1 (.slice a1 ny c1) (.slice e1 ne f1)) (hpg : p ≠ g) (hr : RowR w (.slice a1 ny c1) zs (.slice e1 ne f1) ds) (hq : ratOk b1 zs ds = true) (hnd : 0 < nd)
    (HOP : ∀ W, Below w.heap.size w W → Calls Try.prog 93 #[.pointer (some ⟨p, 0, none⟩), .agg #[.bool b1, .slice a1 ny c1, .slice e1 ne f1]] W fun r w' => (∃ q, r = .returned q) ∧ (∃ b a n c e m f, Rx w' p 85 b (.slice a n c) (.slice e m f) ∧ Φ w' b (.slice a n c) (.slice e m f)) ∧ W.grownBy w' (some p)) :
    Calls Try.prog 78 #[.pointer (some ⟨p, 0, none⟩), (.func (.func 93) #[.pointer (some ⟨p, 0, none⟩)] #[]), .slice (some ⟨g, 0, none⟩) 1 1] w fun r w' => ∃ b v d, r = .returned (.agg #[.bool b, v, d]) ∧ (∃ w1 q b2 v2 d2, Φ w1 b v d ∧ Rx w1 q 31 b2 v2 d2 ∧ w.heap.size ≤ q ∧ w' = ((w1.setCell ⟨q, 0, none⟩ (.bool b)).setCell ⟨q, 1, none⟩ v).setCell ⟨q, 2, none⟩ d) ∧ w.grownBy w' (some p) := by
  have K := Lib.hid (fun W (hW : Below w.heap.size w W) => impl_ratOkR b1 _ zs _ ds true W (hr.below hW) hq)
  have hz : ((nd : Int) == 0) = false := by simp; omega
  have HP := Lib.hid D.lt
  have HO := Lib.hid HOP
  clear hr hq hnd HOP
  go_enter Try.func78, Try.ntmps78
  go_wp2
  obtain ⟨W0, hW0⟩ : ∃ x, x = (w.alloc (.cells #[.bool false, .slice none 0 0, .slice none 0 0] 31)) := ⟨_, rfl⟩
  have B := Lib.hid (show Below w.heap.size w W0 by rw [hW0]; exact ((Below.refl _ _).alloc (Nat.le_refl _) _))
  have D_r := Lib.hid (rx_at (show Rx W0 _ 31 (false) (.slice none 0 0) (.slice none 0 0) by rw [hW0]; exact Rx.new _ _ _ _ _) (show w.heap.size = _ by simp))
  have SZ := Lib.hid (show W0.heap.size = w.heap.size + 1 by rw [hW0]; simp)
  rw [← hW0]
  clear hW0
  have BB := Lib.hid (Below.refl W0.heap.size W0)
  have D_p := Lib.hid (D.below B.out)
  have D_g := Lib.hid (L.below B.out)
  have l0 := D_g.out.c0; have l1 := D_g.out.c1; have l2 := D_g.out.c2
  have k2 := (D_p.out.alloc (.cells #[.bool b1, .slice a1 ny c1, .slice e1 ne f1] 31)).c2
  refine wp_loop_rounds 2 ?_
  rw [rounds_succ]
  go_wp2_with fail
  clear l0 l1 l2 k2
  obtain ⟨W1, hW1⟩ : ∃ x, x = W0.alloc (.cells #[.bool b1, .slice a1 ny c1, .slice e1 ne f1] 31) := ⟨_, rfl⟩
  have D_s := Lib.hid (show Rx W1 W0.heap.size 31 b1 (.slice a1 ny c1) (.slice e1 ne f1) by rw [hW1]; exact Rx.new _ _ _ _ _)
  replace BB := Lib.hid (show Below W0.heap.size W0 W1 by rw [hW1]; exact (Below.refl _ _).alloc (Nat.le_refl _) _)
  replace B := Lib.hid (B.out.trans (BB.out.mono B.out.size))
  have SZ1 := Lib.hid (show W1.heap.size = W0.heap.size + 1 by rw [hW1]; simp)
  rw [← hW1]
  clear hW1
  refine (K.out _ B.out).mono ?_
  rintro e w1 ⟨rfl, bw⟩
  have BB1 := Lib.hid (BB.out.trans (bw.mono BB.out.size))
  have B1 := Lib.hid (B.out.trans (bw.mono B.out.size))
  replace D_s := Lib.hid (D_s.out.below bw)
  clear bw
  have DR := D_r.out.below BB1.out
  have DP := D_p.out.below BB1.out
  have r0 := DR.f 0; have r1 := DR.f 1; have r2 := DR.f 2; have z0 := DR.c0; have z1 := DR.c1; have z2 := DR.c2
  have y0 := D_s.out.c0; have y1 := D_s.out.c1; have y2 := D_s.out.c2
  go_wp2_with fail
  clear r0 r1 r2 z0 z1 z2 y0 y1 y2
  refine (HO.out _ B1.out).mono ?_
  rintro e w2 ⟨⟨q9, rfl⟩, ⟨b9, a9, n9, c9, e9, m9, f9, DP9, hΦ⟩, g9⟩
  have DR9 := DR.kept g9 (by intro h; injection h with h; have := HP.out; omega)
  have G2 := grownBy_trans (grownBy_of_below B1.out (some p)) g9
  have r0 := DR9.f 0; have r1 := DR9.f 1; have r2 := DR9.f 2; have z0 := DR9.c0; have z1 := DR9.c1; have z2 := DR9.c2
  have y0 := DP9.c0; have y1 := DP9.c1; have y2 := DP9.c2
  go_wp2_with fail
  rw [rounds_succ]
  go_wp2
  have G3 := grownBy_own3 G2 (.bool b9) (.slice a9 n9 c9) (.slice e9 m9 f9)
  have D8 := Rx.set3 (b' := b9) (v' := .slice a9 n9 c9) (d' := .slice e9 m9 f9) (DR9)
  have hc0 := D8.c0
  have hc1 := D8.c1
  have hc2 := D8.c2
  exact bodyPost_ret (v := .agg #[.bool b9, .slice a9 n9 c9, .slice e9 m9 f9]) (by simp [results, Try.results78, go_sem, hc0, hc1, hc2]) rfl ⟨_, _, _, rfl, ⟨w2, w.heap.size, _, _, _, hΦ, DR9, Nat.le_refl _, rfl⟩, G3⟩


set_option maxRecDepth 100000 in
set_option maxHeartbeats 2000000 in
theorem impl_foldGreater (p g : Nat) (Φ : World → Bool → Value → Value → Prop) (b0 : Bool) (a0 : Option Addr) (nx c0 : Nat) (e0 : Option Addr) (nd f0 : Nat) (b1 : Bool) (a1 : Option Addr) (ny c1 : Nat) (e1 : Option Addr) (ne f1 : Nat) (zs ds : List Int) (w : World) (D : Rx w p 85 b0 (.slice a0 nx c0) (.slice e0 nd f0)) (L : Rx w g 31 b1 (.slice a1 ny c1) (.slice e1 ne f1)) (hpg : p ≠ g) (hr : RowR w (.slice a1 ny c1) zs (.slice e1 ne f1) ds) (hq : ratOk b1 zs ds = true) (hnd : 0 < nd)
    (HOP : ∀ W, Below w.heap.size w W → Calls Try.prog 95 #[.pointer (some ⟨p, 0, none⟩), .agg #[.bool b1, .slice a1 ny c1, .slice e1 ne f1]] W fun r w' => (∃ q, r = .returned q) ∧ (∃ b a n c e m f, Rx w' p 85 b (.slice a n c) (.slice e m f) ∧ Φ w' b (.slice a n c) (.slice e m f)) ∧ W.grownBy w' (some p)) :
    Calls Try.prog 78 #[.pointer (some ⟨p, 0, none⟩), (.func (.func 95) #[.pointer (some ⟨p, 0, none⟩)] #[]), .slice (some ⟨g, 0, none⟩) 1 1] w fun r w' => ∃ b v d, r = .returned (.agg #[.bool b, v, d]) ∧ (∃ w1 q b2 v2 d2, Φ w1 b v d ∧ Rx w1 q 31 b2 v2 d2 ∧ w.heap.size ≤ q ∧ w' = ((w1.setCell ⟨q, 0, none⟩ (.bool b)).setCell ⟨q, 1, none⟩ v).setCell ⟨q, 2, none⟩ d) ∧ w.grownBy w' (some p) := by
  have K := Lib.hid (fun W (hW : Below w.heap.size w W) => impl_ratOkR b1 _ zs _ ds true W (hr.below hW) hq)
  have hz : ((nd : Int) == 0) = false := by simp; omega
  have HP := Lib.hid D.lt
  have HO := Lib.hid HOP
  clear hr hq hnd HOP
  go_enter Try.func78, Try.ntmps78
  go_wp2
  obtain ⟨W0, hW0⟩ : ∃ x, x = (w.alloc (.cells #[.bool false, .slice none 0 0, .slice none 0 0] 31)) := ⟨_, rfl⟩
  have B := Lib.hid (show Below w.heap.size w W0 by rw [hW0]; exact ((Below.refl _ _).alloc (Nat.le_refl _) _))
  have D_r := Lib.hid (rx_at (show Rx W0 _ 31 (false) (.slice none 0 0) (.slice none 0 0) by rw [hW0]; exact Rx.new _ _ _ _ _) (show w.heap.size = _ by simp))
  have SZ := Lib.hid (show W0.heap.size = w.heap.size + 1 by rw [hW0]; simp)
  rw [← hW0]
  clear hW0
  have BB := Lib.hid (Below.refl W0.heap.size W0)
  have D_p := Lib.hid (D.below B.out)
  have D_g := Lib.hid (L.below B.out)
  have l0 := D_g.out.c0; have l1 := D_g.out.c1; have l2 := D_g.out.c2
  have k2 := (D_p.out.alloc (.cells #[.bool b1, .slice a1 ny c1, .slice e1 ne f1] 31)).c2
  refine wp_loop_rounds 2 ?_
  rw [rounds_succ]
  go_wp2_with fail
  clear l0 l1 l2 k2
  obtain ⟨W1, hW1⟩ : ∃ x, x = W0.alloc (.cells #[.bool b1, .slice a1 ny c1, .slice e1 ne f1] 31) := ⟨_, rfl⟩
  have D_s := Lib.hid (show Rx W1 W0.heap.size 31 b1 (.slice a1 ny c1) (.slice e1 ne f1) by rw [hW1]; exact Rx.new _ _ _ _ _)
  replace BB := Lib.hid (show Below W0.heap.size W0 W1 by rw [hW1]; exact (Below.refl _ _).alloc (Nat.le_refl _) _)
  replace B := Lib.hid (B.out.trans (BB.out.mono B.out.size))
  have SZ1 := Lib.hid (show W1.heap.size = W0.heap.size + 1 by rw [hW1]; simp)
  rw [← hW1]
  clear hW1
  refine (K.out _ B.out).mono ?_
  rintro e w1 ⟨rfl, bw⟩
  have BB1 := Lib.hid (BB.out.trans (bw.mono BB.out.size))
  have B1 := Lib.hid (B.out.trans (bw.mono B.out.size))
  replace D_s := Lib.hid (D_s.out.below bw)
  clear bw
  have DR := D_r.out.below BB1.out
  have DP := D_p.out.below BB1.out
  have r0 := DR.f 0; have r1 := DR.f 1; have r2 := DR.f 2; have z0 := DR.c0; have z1 := DR.c1; have z2 := DR.c2
  have y0 := D_s.out.c0; have y1 := D_s.out.c1; have y2 := D_s.out.c2
  go_wp2_with fail
  clear r0 r1 r2 z0 z1 z2 y0 y1 y2
  refine (HO.out _ B1.out).mono ?_
  rintro e w2 ⟨⟨q9, rfl⟩, ⟨b9, a9, n9, c9, e9, m9, f9, DP9, hΦ⟩, g9⟩
  have DR9 := DR.kept g9 (by intro h; injection h with h; have := HP.out; omega)
  have G2 := grownBy_trans (grownBy_of_below B1.out (some p)) g9
  have r0 := DR9.f 0; have r1 := DR9.f 1; have r2 := DR9.f 2; have z0 := DR9.c0; have z1 := DR9.c1; have z2 := DR9.c2
  have y0 := DP9.c0; have y1 := DP9.c1; have y2 := DP9.c2
  go_wp2_with fail
  rw [rounds_succ]
  go_wp2
  have G3 := grownBy_own3 G2 (.bool b9) (.slice a9 n9 c9) (.slice e9 m9 f9)
  have D8 := Rx.set3 (b' := b9) (v' := .slice a9 n9 c9) (d' := .slice e9 m9 f9) (DR9)
  have hc0 := D8.c0
  have hc1 := D8.c1
  have hc2 := D8.c2
  exact bodyPost_ret (v := .agg #[.bool b9, .slice a9 n9 c9, .slice e9 m9 f9]) (by simp [results, Try.results78, go_sem, hc0, hc1, hc2]) rfl ⟨_, _, _, rfl, ⟨w2, w.heap.size, _, _, _, hΦ, DR9, Nat.le_refl _, rfl⟩, G3⟩


end Go.Proofs.Ytgoonbjhfbnaiaa
