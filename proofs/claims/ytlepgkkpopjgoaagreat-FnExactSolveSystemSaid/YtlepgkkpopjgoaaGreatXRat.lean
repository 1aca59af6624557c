/- Fractions in memory: what the exact laws do with them: copying one, comparing two, writing the marks into one, and reading the marks again. -/
import Derived.Test.YtlepgkkpopjgoaaGreatXBase
import Derived.Deep.CutBlock
import Derived.Deep.CutRange
import Derived.Deep.RegionHeld3
namespace Go.Proofs.YtlepgkkpopjgoaaGreat
open Go.RowKit Go.WideShapes Go.ChangeShapes
def Rx (w : World) (p : Nat) (t : TypeId) (b : Bool) (v d : Value) : Prop := w.heap[p]? = some (.cells #[.bool b, v, d] t (0, 0))
theorem Rx.lt {w : World} {p : Nat} {t : TypeId} {b : Bool} {v d : Value} (h : Rx w p t b v d) : p < w.heap.size := (Array.getElem?_eq_some_iff.1 h).1
theorem Rx.c0 {w : World} {p : Nat} {t : TypeId} {b : Bool} {v d : Value} (h : Rx w p t b v d) : w.cell? ⟨p, 0, none⟩ = some (.bool b) := by simp [World.cell?, show w.heap[p]? = _ from h]
theorem Rx.c1 {w : World} {p : Nat} {t : TypeId} {b : Bool} {v d : Value} (h : Rx w p t b v d) : w.cell? ⟨p, 1, none⟩ = some v := by simp [World.cell?, show w.heap[p]? = _ from h]
theorem Rx.c2 {w : World} {p : Nat} {t : TypeId} {b : Bool} {v d : Value} (h : Rx w p t b v d) : w.cell? ⟨p, 2, none⟩ = some d := by simp [World.cell?, show w.heap[p]? = _ from h]
theorem Rx.f {w : World} {p : Nat} {t : TypeId} {b : Bool} {v d : Value} (h : Rx w p t b v d) (j : Nat) : w.frozen? ⟨p, j, none⟩ = false := by simp [World.frozen?, show w.heap[p]? = _ from h]
theorem Rx.new (w : World) (t : TypeId) (b : Bool) (v d : Value) : Rx (w.alloc (.cells #[.bool b, v, d] t)) w.heap.size t b v d := World.alloc_heap_new w _
theorem Rx.kept {w w' : World} {row : Option Nat} {p : Nat} {t : TypeId} {b : Bool} {v d : Value} (h : Rx w p t b v d) (hg : w.grownBy w' row) (hne : some p ≠ row) : Rx w' p t b v d := (hg.block p h.lt hne).trans h
theorem Rx.alloc {w : World} {p : Nat} {t : TypeId} {b : Bool} {v d : Value} (h : Rx w p t b v d) (o : Obj) : Rx (w.alloc o) p t b v d := h.kept (World.grownBy_alloc w o none) (by simp)
theorem Rx.below {w w' : World} {p : Nat} {t : TypeId} {b : Bool} {v d : Value} (h : Rx w p t b v d) (hb : Below w.heap.size w w') : Rx w' p t b v d := (hb.block p h.lt).trans h
theorem rx_at {w : World} {p q : Nat} {t : TypeId} {b : Bool} {v d : Value} (h : Rx w p t b v d) (e : q = p) : Rx w q t b v d := by rw [e]; exact h
theorem Rx.set {w : World} {p : Nat} {t : TypeId} {b : Bool} {v d : Value} (h : Rx w p t b v d) (j : Nat) (x : Value) : (w.setCell ⟨p, j, none⟩ x).heap[p]? = some (.cells ((#[Value.bool b, v, d] : Array Value).setIfInBounds j x) t (0, 0)) := by
 simp [World.setCell, Array.getElem?_modify, show w.heap[p]? = _ from h]
theorem Rx.set0 {w : World} {p : Nat} {t : TypeId} {b : Bool} {v d : Value} (h : Rx w p t b v d) (b' : Bool) : Rx (w.setCell ⟨p, 0, none⟩ (.bool b')) p t b' v d := h.set 0 _
theorem Rx.set1 {w : World} {p : Nat} {t : TypeId} {b : Bool} {v d : Value} (h : Rx w p t b v d) (x : Value) : Rx (w.setCell ⟨p, 1, none⟩ x) p t b x d := h.set 1 _
theorem Rx.set2 {w : World} {p : Nat} {t : TypeId} {b : Bool} {v d : Value} (h : Rx w p t b v d) (x : Value) : Rx (w.setCell ⟨p, 2, none⟩ x) p t b v x := h.set 2 _
theorem Rx.far {w : World} {p q : Nat} {t : TypeId} {b : Bool} {v d : Value} (h : Rx w p t b v d) (hne : p ≠ q) (j : Nat) (x : Value) : Rx (w.setCell ⟨q, j, none⟩ x) p t b v d :=
 (Below.heap_setCell w ⟨q, j, none⟩ x p hne).trans h
theorem Rx.ne_row {w : World} {p : Nat} {t : TypeId} {b : Bool} {v d u : Value} {l : List Int} {B : Nat} (h : Rx w p t b v d) (ho : OwnI w B u l) (ht : t ≠ 3) : some p ≠ u.ownBlock := by
 intro e
 rcases ho.2 with ⟨rfl, _⟩ | ⟨g, cap, cur, rfl, _, hgb, _⟩
 ·simp [Value.ownBlock] at e
 ·have e2 : p = g := by simpa [Value.ownBlock] using e
  subst e2
  have h2 : w.heap[p]? = _ := h
  rw [hgb] at h2
  injection h2 with h2
  injection h2 with _ h3 _
  exact ht h3.symm
theorem Rx.marked {w w' : World} {p : Nat} {t : TypeId} {b : Bool} {v d u : Value} {l : List Int} {B : Nat} (h : Rx w p t b v d) (ho : OwnI w B u l) (ht : t ≠ 3) (hg : w.grownBy w' u.ownBlock) : Rx w' p t b v d := h.kept hg (h.ne_row ho ht)
theorem own_rx {w : World} {p : Nat} {t : TypeId} {b : Bool} {v d u : Value} {l : List Int} {B : Nat} (ho : OwnI w B u l) (h : Rx w p t b v d) (ht : t ≠ 3) (j : Nat) (x : Value) : OwnI (w.setCell ⟨p, j, none⟩ x) B u l := by
 refine ho.other (setCell_grown w p j x) (fun g g' e1 e2 e3 => ?_)
 have e4 : p = g' := by simpa using e2
 exact h.ne_row ho ht (by rw [e1, e3, e4])
def ApartR (v0 v1 : Value) : Prop := ∀ g g', v0.ownBlock = some g → v1.ownBlock = some g' → g ≠ g'   -- as Apart
set_option maxHeartbeats 400000 in
theorem sz_rat_yes (b : Bool) (a : Option Addr) (n c : Nat) (a' : Option Addr) (n' c' : Nat) (left : Int) (w : World) (h0 : left ≤ 1048576) (h1 : (n : Int) + n' ≤ left) :
  Calls Tryz.prog 89 #[.agg #[.bool b, .slice a n c, .slice a' n' c'], .int .i64 left] w fun e w' => e = .returned (.int .i64 (left - n - n')) ∧ Below w.heap.size w w' := by
 go_enter Tryz.func89, Tryz.ntmps89
 go_wp2_with fail
 have bA := (Below.refl w.heap.size w).alloc (Nat.le_refl _) (.cells #[.bool b, .slice a n c, .slice a' n' c'] 107)
 have D := Rx.new w 107 b (.slice a n c) (.slice a' n' c')
 refine (sz_big_yes b a n c left _ h0 (by omega)).mono ?_
 rintro e w1 ⟨rfl, b1⟩
 have BA := Lib.hid (bA.trans (b1.mono (by simp)))
 have c2 := (D.below b1).c2
 clear bA D b1
 go_wp2_with fail
 clear c2
 refine (sz_ints_yesB a' n' c' _ _ (by omega) (by omega)).mono ?_
 rintro e w2 ⟨rfl, b2⟩
 have BB := Lib.hid (BA.out.trans (b2.mono BA.out.size))
 clear b2
 go_wp2
 go_ret
 exact ⟨rfl, BB.out⟩
set_option maxHeartbeats 400000 in
theorem sz_rat_no (b : Bool) (a : Option Addr) (n c : Nat) (a' : Option Addr) (n' c' : Nat) (left : Int) (w : World) (h0 : 0 ≤ left ∧ left ≤ 1048576 ∧ n ≤ 2 ^ 63 - 1 ∧ n' ≤ 2 ^ 63 - 1) (h1 : left < (n : Int) + n') :
  Calls Tryz.prog 89 #[.agg #[.bool b, .slice a n c, .slice a' n' c'], .int .i64 left] w fun e w' => e = .returned (.int .i64 (-1)) ∧ Below w.heap.size w w' := by
 have bA := (Below.refl w.heap.size w).alloc (Nat.le_refl _) (.cells #[.bool b, .slice a n c, .slice a' n' c'] 107)
 have D := Rx.new w 107 b (.slice a n c) (.slice a' n' c')
 by_cases hn : (n : Int) ≤ left
 ·go_enter Tryz.func89, Tryz.ntmps89
  go_wp2_with fail
  refine (sz_big_yes b a n c left _ (by omega) (by omega)).mono ?_
  rintro e w1 ⟨rfl, b1⟩
  have BA := Lib.hid (bA.trans (b1.mono (by simp)))
  have c2 := (D.below b1).c2
  clear bA D b1
  go_wp2_with fail
  clear c2
  refine (sz_ints_noB a' n' c' _ _ (by omega) (by omega)).mono ?_
  rintro e w2 ⟨rfl, b2⟩
  have BB := Lib.hid (BA.out.trans (b2.mono BA.out.size))
  clear b2
  go_wp2
  go_ret
  exact ⟨rfl, BB.out⟩
 ·go_enter Tryz.func89, Tryz.ntmps89
  go_wp2_with fail
  refine (sz_big_no b a n c left _ (by omega) (by omega)).mono ?_
  rintro e w1 ⟨rfl, b1⟩
  have BA := Lib.hid (bA.trans (b1.mono (by simp)))
  clear bA D b1
  go_wp2
  go_ret
  exact ⟨rfl, BA.out⟩
set_option maxHeartbeats 1000000 in
theorem to_rats {b : Bool} (v : Value) (zs : List Int) (d : Value) (ds : List Int) (w : World) (h : RowOf iV w v zs) (hd : RowOf iV w d ds) (hl : zs.length ≤ 1099511627776) (hld : ds.length ≤ 1099511627776) :
  Calls Tryz.prog 92 #[.agg #[.bool b, v, d]] w fun e w' => ∃ v' d', e = .returned (.agg #[.bool b, v', d']) ∧ OwnI w' w.heap.size v' zs ∧ OwnI w' w.heap.size d' ds ∧ ApartR v' d' ∧ Below w.heap.size w w' := by
 have H := Lib.hid (fun W (hW : Below w.heap.size w W) => to_bigs (b := b) v zs W (rowOf_below h hW) hl)
 have K := Lib.hid (fun W (hW : Below w.heap.size w W) => to_ints d ds W (rowOf_below hd hW) hld)
 obtain ⟨a, c, rfl, h1, h2, h3⟩ := h
 obtain ⟨a', c', rfl, h4, h5, h6⟩ := hd
 clear h1 h2 h3 h4 h5 h6
 go_enter Tryz.func92, Tryz.ntmps92
 go_wp2_with fail
 have bA := (((Below.refl w.heap.size w).alloc (Nat.le_refl _) (.cells #[.bool b, .slice a zs.length c, .slice a' ds.length c'] 107)).alloc (by simp) (.cells #[.bool false, .slice none 0 0, .slice none 0 0] 34)).alloc (by simp; omega) (.cells #[.bool false, .slice none 0 0, .slice none 0 0] 34)
 obtain ⟨W0, hW0⟩ : ∃ x, x = (((w.alloc (.cells #[.bool b, .slice a zs.length c, .slice a' ds.length c'] 107)).alloc (.cells #[.bool false, .slice none 0 0, .slice none 0 0] 34)).alloc (.cells #[.bool false, .slice none 0 0, .slice none 0 0] 34)) := ⟨_, rfl⟩
 have B := Lib.hid (show Below w.heap.size w W0 by rw [hW0]; exact bA)
 have DA := Lib.hid (show Rx W0 w.heap.size 107 b (.slice a zs.length c) (.slice a' ds.length c') by rw [hW0]; exact ((Rx.new _ _ _ _ _).alloc _).alloc _)
 have DR := Lib.hid (rx_at (show Rx W0 _ 34 false (.slice none 0 0) (.slice none 0 0) by rw [hW0]; exact (Rx.new _ _ _ _ _).alloc _) (show w.heap.size + 1 = _ by simp))
 have DT := Lib.hid (rx_at (show Rx W0 _ 34 false (.slice none 0 0) (.slice none 0 0) by rw [hW0]; exact Rx.new _ _ _ _ _) (show w.heap.size + 1 + 1 = _ by simp))
 have SZ := Lib.hid (show W0.heap.size = w.heap.size + 1 + 1 + 1 by rw [hW0]; simp)
 rw [← hW0]
 clear hW0 bA
 refine (H.out _ B.out).mono ?_
 rintro e w1 ⟨v', rfl, o1, b1⟩
 obtain ⟨a1, c1, rfl⟩ := o1.slice
 have hz1 := b1.size
 have O1 := Lib.hid o1
 replace DA := Lib.hid (DA.out.below b1)
 replace DR := Lib.hid (DR.out.below b1)
 replace DT := Lib.hid (DT.out.below b1)
 replace B := Lib.hid (B.out.trans (b1.mono B.out.size))
 clear o1 b1
 have k0 := DT.out.c0
 have k1 := DT.out.c1
 have k2 := DT.out.f 0
 have k3 := DT.out.f 1
 have k4 := DA.out.c2
 go_wp2_with fail
 clear k0 k1 k2 k3 k4
 have z0 := SZ.out
 obtain ⟨W1, hW1⟩ : ∃ x, x = (w1.setCell ⟨w.heap.size + 1 + 1, 0, none⟩ (.bool b)).setCell ⟨w.heap.size + 1 + 1, 1, none⟩ (.slice a1 zs.length c1) := ⟨_, rfl⟩
 have szW : W1.heap.size = w1.heap.size := by rw [hW1]; simp
 replace DR := Lib.hid (show Rx W1 (w.heap.size + 1) 34 false (.slice none 0 0) (.slice none 0 0) by rw [hW1]; exact (DR.out.far (by omega) 0 _).far (by omega) 1 _)
 replace O1 := Lib.hid (show OwnI W1 W0.heap.size (.slice a1 zs.length c1) zs by rw [hW1]; exact own_rx (own_rx O1.out DT.out (by decide) 0 _) (DT.out.set0 b) (by decide) 1 _)
 replace DT := Lib.hid (show Rx W1 (w.heap.size + 1 + 1) 34 b (.slice a1 zs.length c1) (.slice none 0 0) by rw [hW1]; exact (DT.out.set0 b).set1 _)
 replace B := Lib.hid (show Below w.heap.size w W1 by rw [hW1]; exact (B.out.setCell (by simp; omega) _).setCell (by simp; omega) _)
 rw [← hW1]
 clear hW1 DA
 refine (K.out _ B.out).mono ?_
 rintro e w2 ⟨d', rfl, o2, b2⟩
 obtain ⟨a2, c2, rfl⟩ := o2.slice
 have hz2 := b2.size
 have AP : ApartR (.slice a1 zs.length c1) (.slice a2 ds.length c2) := fun g g' e1 e2 => by
  have := (O1.out.lt g e1).2
  have := (o2.lt g' e2).1
  omega
 have O2 := Lib.hid o2
 replace O1 := Lib.hid (O1.out.below b2)
 replace DR := Lib.hid (DR.out.below b2)
 replace DT := Lib.hid (DT.out.below b2)
 replace B := Lib.hid (B.out.trans (b2.mono B.out.size))
 clear o2 b2
 have k0 := DT.out.c0
 have k1 := DT.out.c1
 have k2 := DT.out.c2
 have k3 := DT.out.f 2
 have k4 := DR.out.c0
 have k5 := DR.out.c1
 have k6 := DR.out.c2
 have k7 := DR.out.f 0
 have k8 := DR.out.f 1
 have k9 := DR.out.f 2
 go_wp2
 clear k0 k1 k2 k3 k4 k5 k6 k7 k8 k9
 have D3 := DT.out.set2 (.slice a2 ds.length c2)
 have R3 := DR.out.far (show w.heap.size + 1 ≠ w.heap.size + 1 + 1 by omega) 2 (.slice a2 ds.length c2)
 have R4 := R3.set0 b
 have R5 := R4.set1 (.slice a1 zs.length c1)
 have R6 := R5.set2 (.slice a2 ds.length c2)
 have hc0 := R6.c0
 have hc1 := R6.c1
 have hc2 := R6.c2
 refine bodyPost_ret (v := .agg #[.bool b, .slice a1 zs.length c1, .slice a2 ds.length c2]) (by simp [results, Tryz.results92, go_sem, hc0, hc1, hc2]) rfl ⟨_, _, rfl, ?_, ?_, AP, ?_⟩
 ·exact (own_rx (own_rx (own_rx (own_rx O1.out DT.out (by decide) 2 _) R3 (by decide) 0 _) R4 (by decide) 1 _) R5 (by decide) 2 _).base (by omega)
 ·exact (own_rx (own_rx (own_rx (own_rx O2.out DT.out (by decide) 2 _) R3 (by decide) 0 _) R4 (by decide) 1 _) R5 (by decide) 2 _).base (by omega)
 ·exact (((B.out.setCell (by simp; omega) _).setCell (by simp) _).setCell (by simp) _).setCell (by simp) _
set_option maxHeartbeats 400000 in
theorem eq_ratsB {b : Bool} (v1 v2 : Value) (zs : List Int) (d1 d2 : Value) (ds : List Int) (w : World) (h1 : RowOf iV w v1 zs) (h2 : RowOf iV w v2 zs) (h3 : RowOf iV w d1 ds) (h4 : RowOf iV w d2 ds) :
  Calls Tryz.prog 38 #[.agg #[.bool b, v1, d1], .agg #[.bool b, v2, d2]] w fun e w' => e = .returned (.bool true) ∧ Below w.heap.size w w' := by
 have H := Lib.hid (fun W (hW : Below w.heap.size w W) => eq_bigsB (b := b) v1 v2 zs W (rowOf_below h1 hW) (rowOf_below h2 hW))
 have K := Lib.hid (fun W (hW : Below w.heap.size w W) => eq_intsB d1 d2 ds W (rowOf_below h3 hW) (rowOf_below h4 hW))
 obtain ⟨a, c, rfl, e1, e2, e3⟩ := h1
 obtain ⟨a', c', rfl, e4, e5, e6⟩ := h2
 clear e1 e2 e3 e4 e5 e6
 obtain ⟨x, y, rfl, e1, e2, e3⟩ := h3
 obtain ⟨x', y', rfl, e4, e5, e6⟩ := h4
 clear e1 e2 e3 e4 e5 e6
 go_enter Tryz.func38, Tryz.ntmps38
 go_wp2_with fail
 have bA := ((Below.refl w.heap.size w).alloc (Nat.le_refl _) (.cells #[.bool b, .slice a zs.length c, .slice x ds.length y] 34)).alloc (by simp) (.cells #[.bool b, .slice a' zs.length c', .slice x' ds.length y'] 34)
 have D1 := (Rx.new w 34 b (.slice a zs.length c) (.slice x ds.length y)).alloc (.cells #[.bool b, .slice a' zs.length c', .slice x' ds.length y'] 34)
 have D2 := rx_at (Rx.new (w.alloc (.cells #[.bool b, .slice a zs.length c, .slice x ds.length y] 34)) 34 b (.slice a' zs.length c') (.slice x' ds.length y')) (show w.heap.size + 1 = _ by simp)
 refine (H.out _ bA).mono ?_
 rintro e w1 ⟨rfl, b1⟩
 have BA := Lib.hid (bA.trans (b1.mono (by simp; omega)))
 have k0 := (D1.below b1).c2
 have k1 := (D2.below b1).c2
 clear bA b1 D1 D2
 go_wp2_with fail
 clear k0 k1
 refine (K.out _ BA.out).mono ?_
 rintro e w2 ⟨rfl, b2⟩
 have BB := Lib.hid (BA.out.trans (b2.mono BA.out.size))
 clear b2
 go_wp2
 go_ret
 exact ⟨rfl, BB.out⟩
def RowR (w : World) (v : Value) (zs : List Int) (d : Value) (ds : List Int) : Prop := RowOf iV w v zs ∧ RowOf iV w d ds
def OwnR (w : World) (B : Nat) (v : Value) (zs : List Int) (d : Value) (ds : List Int) : Prop := OwnI w B v zs ∧ OwnI w B d ds ∧ ApartR v d
theorem RowR.below {w w' : World} {v d : Value} {zs ds : List Int} (h : RowR w v zs d ds) (hb : Below w.heap.size w w') : RowR w' v zs d ds := ⟨rowOf_below h.1 hb, rowOf_below h.2 hb⟩
theorem OwnR.row {w : World} {B : Nat} {v d : Value} {zs ds : List Int} (h : OwnR w B v zs d ds) : RowR w v zs d ds := ⟨h.1.row, h.2.1.row⟩
theorem OwnR.below {w w' : World} {B : Nat} {v d : Value} {zs ds : List Int} (h : OwnR w B v zs d ds) (hb : Below w.heap.size w w') : OwnR w' B v zs d ds := ⟨h.1.below hb, h.2.1.below hb, h.2.2⟩
theorem OwnR.alloc {w : World} {B : Nat} {v d : Value} {zs ds : List Int} (h : OwnR w B v zs d ds) (o : Obj) : OwnR (w.alloc o) B v zs d ds := ⟨h.1.alloc o, h.2.1.alloc o, h.2.2⟩
theorem OwnR.base {w : World} {B B' : Nat} {v d : Value} {zs ds : List Int} (h : OwnR w B v zs d ds) (hB : B' ≤ B) : OwnR w B' v zs d ds := ⟨h.1.base hB, h.2.1.base hB, h.2.2⟩
theorem OwnR.slices {w : World} {B : Nat} {v d : Value} {zs ds : List Int} (h : OwnR w B v zs d ds) : ∃ a c e f, v = .slice a zs.length c ∧ d = .slice e ds.length f := by
 obtain ⟨a, c, h1⟩ := h.1.slice
 obtain ⟨e, f, h2⟩ := h.2.1.slice
 exact ⟨a, c, e, f, h1, h2⟩
theorem OwnR.lt {w : World} {B : Nat} {v d : Value} {zs ds : List Int} (h : OwnR w B v zs d ds) : ∀ g, v.ownBlock = some g ∨ d.ownBlock = some g → B ≤ g ∧ g < w.heap.size := fun g e => e.elim (h.1.lt g) (h.2.1.lt g)
theorem to_ratsR {b : Bool} (v : Value) (zs : List Int) (d : Value) (ds : List Int) (w : World) (h : RowR w v zs d ds) (hl : zs.length ≤ 1099511627776) (hld : ds.length ≤ 1099511627776) :
  Calls Tryz.prog 92 #[.agg #[.bool b, v, d]] w fun e w' => ∃ v' d', e = .returned (.agg #[.bool b, v', d']) ∧ OwnR w' w.heap.size v' zs d' ds ∧ Below w.heap.size w w' :=
 (to_rats v zs d ds w h.1 h.2 hl hld).mono fun _ _ ⟨v', d', he, h1, h2, h3, h4⟩ => ⟨v', d', he, ⟨h1, h2, h3⟩, h4⟩
theorem eq_ratsR {b : Bool} (v1 d1 v2 d2 : Value) (zs ds : List Int) (w : World) (h1 : RowR w v1 zs d1 ds) (h2 : RowR w v2 zs d2 ds) :
  Calls Tryz.prog 38 #[.agg #[.bool b, v1, d1], .agg #[.bool b, v2, d2]] w fun e w' => e = .returned (.bool true) ∧ Below w.heap.size w w' :=
 eq_ratsB v1 v2 zs d1 d2 ds w h1.1 h2.1 h1.2 h2.2
theorem Rx.set3 {w : World} {p : Nat} {t : TypeId} {b b' : Bool} {v d v' d' : Value} (h : Rx w p t b v d) : Rx (((w.setCell ⟨p, 0, none⟩ (.bool b')).setCell ⟨p, 1, none⟩ v').setCell ⟨p, 2, none⟩ d') p t b' v' d' := ((h.set0 b').set1 v').set2 d'
theorem OwnR.set3 {w : World} {p : Nat} {t : TypeId} {b b' : Bool} {v d u e : Value} {zs ds : List Int} {B : Nat} (ho : OwnR w B u zs e ds) (h : Rx w p t b v d) (ht : t ≠ 3) (y z : Value) : OwnR (((w.setCell ⟨p, 0, none⟩ (.bool b')).setCell ⟨p, 1, none⟩ y).setCell ⟨p, 2, none⟩ z) B u zs e ds :=
 ⟨own_rx (own_rx (own_rx ho.1 h ht 0 _) (h.set0 b') ht 1 _) ((h.set0 b').set1 y) ht 2 _, own_rx (own_rx (own_rx ho.2.1 h ht 0 _) (h.set0 b') ht 1 _) ((h.set0 b').set1 y) ht 2 _, ho.2.2⟩
theorem Rx.drew {w : World} {p : Nat} {t : TypeId} {b : Bool} {v d : Value} (h : Rx w p t b v d) : Rx w.drew p t b v d := h
theorem cell_far3 {w : World} {p k j : Nat} (h : k ≠ p) (x y z : Value) : (((w.setCell ⟨p, 0, none⟩ x).setCell ⟨p, 1, none⟩ y).setCell ⟨p, 2, none⟩ z).cell? ⟨k, j, none⟩ = w.cell? ⟨k, j, none⟩ :=
 (World.cell?_of_block (a := ⟨k, j, none⟩) (Below.heap_setCell _ ⟨p, 2, none⟩ z k h)).trans (cell_far h x y)
def Grown2 (w w' : World) (v d : Value) : Prop := ∃ w1, w.grownBy w1 v.ownBlock ∧ w1.grownBy w' d.ownBlock
theorem Grown2.size {w w' : World} {v d : Value} (h : Grown2 w w' v d) : w.heap.size ≤ w'.heap.size := by
 obtain ⟨w1, g1, g2⟩ := h
 exact Nat.le_trans g1.size g2.size
end Go.Proofs.YtlepgkkpopjgoaaGreat
