/- Signed numbers in memory: what the exact laws do with them: copying one, comparing two, writing the marks into one, and reading the marks again. -/
import Derived.Test.YtofmpfcbdemcnaaLawTail
import Derived.Lib.SmallJoins
import Derived.Laws.ResultCell
import Derived.RangeFuncBox
namespace Go.Proofs.Ytofmpfcbdemcnaa
open Go.RowKit Go.WideShapes Go.ChangeShapes

theorem bcell {W w1 : World} (hb : Below W.heap.size W w1) : (∀ b o, b < W.heap.size → w1.cell? ⟨b, o, none⟩ = W.cell? ⟨b, o, none⟩) ∧ (∀ b o, b < W.heap.size → w1.frozen? ⟨b, o, none⟩ = W.frozen? ⟨b, o, none⟩) :=
  ⟨fun b o h => hb.cell (p := ⟨b, o, none⟩) h, fun b o h => hb.frozen (p := ⟨b, o, none⟩) h⟩

theorem OwnI.slice {w : World} {B : Nat} {v : Value} {l : List Int} (h : OwnI w B v l) : ∃ a c, v = .slice a l.length c := by
  rcases h.2 with ⟨hv, hn⟩ | ⟨g, cap, cur, hv, _⟩
  · exact ⟨none, 0, by rw [hv, hn]⟩
  · exact ⟨_, _, hv⟩

theorem OwnI.old {w : World} {B : Nat} {v : Value} {l : List Int} (h : OwnI w B v l) {k : Nat} (hk : k < B) (j : Nat) (x : Value) : OwnI (w.setCell ⟨k, j, none⟩ x) B v l :=
  h.other (setCell_grown w k j x) (fun g g' e1 e2 => by
    have h1 := (World.ownsRow.lt h g e1).1
    have h2 : k = g' := by simpa using e2
    omega)

/-- block p holds a sign and a row of limbs -/
def Bx (w : World) (p : Nat) (t : TypeId) (b : Bool) (v : Value) : Prop := w.heap[p]? = some (.cells #[.bool b, v] t (0, 0))
theorem Bx.lt {w : World} {p : Nat} {t : TypeId} {b : Bool} {v : Value} (h : Bx w p t b v) : p < w.heap.size := (Array.getElem?_eq_some_iff.1 h).1
theorem Bx.c0 {w : World} {p : Nat} {t : TypeId} {b : Bool} {v : Value} (h : Bx w p t b v) : w.cell? ⟨p, 0, none⟩ = some (.bool b) := by simp [World.cell?, show w.heap[p]? = _ from h]
theorem Bx.c1 {w : World} {p : Nat} {t : TypeId} {b : Bool} {v : Value} (h : Bx w p t b v) : w.cell? ⟨p, 1, none⟩ = some v := by simp [World.cell?, show w.heap[p]? = _ from h]
theorem Bx.f0 {w : World} {p : Nat} {t : TypeId} {b : Bool} {v : Value} (h : Bx w p t b v) : w.frozen? ⟨p, 0, none⟩ = false := by simp [World.frozen?, show w.heap[p]? = _ from h]
theorem Bx.f1 {w : World} {p : Nat} {t : TypeId} {b : Bool} {v : Value} (h : Bx w p t b v) : w.frozen? ⟨p, 1, none⟩ = false := by simp [World.frozen?, show w.heap[p]? = _ from h]
theorem Bx.new (w : World) (t : TypeId) (b : Bool) (v : Value) : Bx (w.alloc (.cells #[.bool b, v] t)) w.heap.size t b v := World.alloc_heap_new w _
theorem Bx.kept {w w' : World} {row : Option Nat} {p : Nat} {t : TypeId} {b : Bool} {v : Value} (h : Bx w p t b v) (hg : w.grownBy w' row) (hne : some p ≠ row) : Bx w' p t b v := (hg.block p h.lt hne).trans h
theorem Bx.alloc {w : World} {p : Nat} {t : TypeId} {b : Bool} {v : Value} (h : Bx w p t b v) (o : Obj) : Bx (w.alloc o) p t b v := h.kept (World.grownBy_alloc w o none) (by simp)
theorem Bx.below {w w' : World} {p : Nat} {t : TypeId} {b : Bool} {v : Value} (h : Bx w p t b v) (hb : Below w.heap.size w w') : Bx w' p t b v := (hb.block p h.lt).trans h
theorem bx_at {w : World} {p q : Nat} {t : TypeId} {b : Bool} {v : Value} (h : Bx w p t b v) (e : q = p) : Bx w q t b v := by rw [e]; exact h
theorem cell_far {w : World} {p k j : Nat} (h : k ≠ p) (x y : Value) : ((w.setCell ⟨p, 0, none⟩ x).setCell ⟨p, 1, none⟩ y).cell? ⟨k, j, none⟩ = w.cell? ⟨k, j, none⟩ :=
  (World.cell?_of_block (a := ⟨k, j, none⟩) (Below.heap_setCell _ ⟨p, 1, none⟩ y k h)).trans (World.cell?_of_block (a := ⟨k, j, none⟩) (Below.heap_setCell _ ⟨p, 0, none⟩ x k h))
theorem cell_alloc {w : World} {p : Addr} {v : Value} (h : w.cell? p = some v) (o : Obj) : (w.alloc o).cell? p = some v :=
  (((Below.refl w.heap.size w).alloc (Nat.le_refl _) o).cell (World.block_lt_of_cell? w _ h)).trans h
/-- a row of the call's own is no such block -/
theorem Bx.marked {w w' : World} {p : Nat} {t : TypeId} {b : Bool} {v u : Value} {l : List Int} {B : Nat} (h : Bx w p t b v) (ho : OwnI w B u l) (ht : t ≠ 3) (hg : w.grownBy w' u.ownBlock) : Bx w' p t b v := by
  refine h.kept hg (fun e => ?_)
  rcases ho.2 with ⟨rfl, _⟩ | ⟨g, cap, cur, rfl, _, hgb, _⟩
  · simp [Value.ownBlock] at e
  · have e2 : p = g := by simpa [Value.ownBlock] using e
    subst e2
    have h2 : w.heap[p]? = _ := h
    rw [hgb] at h2
    injection h2 with h2
    injection h2 with _ h3 _
    exact ht h3.symm

set_option maxHeartbeats 400000 in
theorem sz_ints_yes (a : Option Addr) (n c : Nat) (left : Int) (w : World) (h0 : left ≤ 1048576) (h1 : (n : Int) ≤ left) :
    Calls Try.prog 39 #[.slice a n c, .int .i64 left] w fun e w' => e = .returned (.int .i64 (left - n)) ∧ w' = w := by
  go_enter Try.func39, Try.ntmps39
  go_wp2
  go_ret
  exact ⟨rfl, rfl⟩
set_option maxHeartbeats 400000 in
theorem sz_ints_no (a : Option Addr) (n c : Nat) (left : Int) (w : World) (h0 : 0 ≤ left ∧ left ≤ 1048576 ∧ n ≤ 2 ^ 63 - 1) (h1 : left < n) :
    Calls Try.prog 39 #[.slice a n c, .int .i64 left] w fun e w' => e = .returned (.int .i64 (-1)) ∧ w' = w := by
  go_enter Try.func39, Try.ntmps39
  go_wp2
  go_ret
  exact ⟨rfl, rfl⟩
set_option maxHeartbeats 400000 in
theorem sz_big_yes (b : Bool) (a : Option Addr) (n c : Nat) (left : Int) (w : World) (h0 : left ≤ 1048576) (h1 : (n : Int) ≤ left) :
    Calls Try.prog 12 #[.agg #[.bool b, .slice a n c], .int .i64 left] w fun e w' => e = .returned (.int .i64 (left - n)) ∧ Below w.heap.size w w' := by
  go_enter Try.func12, Try.ntmps12
  go_wp2_with (go_at_call 39; refine (sz_ints_yes _ _ _ _ _ h0 h1).mono ?_; rintro e w' ⟨rfl, rfl⟩)
  go_ret
  exact ⟨rfl, (Below.refl _ _).alloc (Nat.le_refl _) _⟩
set_option maxHeartbeats 400000 in
theorem sz_big_no (b : Bool) (a : Option Addr) (n c : Nat) (left : Int) (w : World) (h0 : 0 ≤ left ∧ left ≤ 1048576 ∧ n ≤ 2 ^ 63 - 1) (h1 : left < n) :
    Calls Try.prog 12 #[.agg #[.bool b, .slice a n c], .int .i64 left] w fun e w' => e = .returned (.int .i64 (-1)) ∧ Below w.heap.size w w' := by
  go_enter Try.func12, Try.ntmps12
  go_wp2_with (go_at_call 39; refine (sz_ints_no _ _ _ _ _ h0 h1).mono ?_; rintro e w' ⟨rfl, rfl⟩)
  go_ret
  exact ⟨rfl, (Below.refl _ _).alloc (Nat.le_refl _) _⟩

theorem sz_ints_yesB (a : Option Addr) (n c : Nat) (left : Int) (w : World) (h0 : left ≤ 1048576) (h1 : (n : Int) ≤ left) :
    Calls Try.prog 39 #[.slice a n c, .int .i64 left] w fun e w' => e = .returned (.int .i64 (left - n)) ∧ Below w.heap.size w w' :=
  (sz_ints_yes a n c left w h0 h1).mono fun _ _ ⟨he, hw⟩ => ⟨he, by rw [hw]; exact Below.refl _ _⟩
theorem sz_ints_noB (a : Option Addr) (n c : Nat) (left : Int) (w : World) (h0 : 0 ≤ left ∧ left ≤ 1048576 ∧ n ≤ 2 ^ 63 - 1) (h1 : left < n) :
    Calls Try.prog 39 #[.slice a n c, .int .i64 left] w fun e w' => e = .returned (.int .i64 (-1)) ∧ Below w.heap.size w w' :=
  (sz_ints_no a n c left w h0 h1).mono fun _ _ ⟨he, hw⟩ => ⟨he, by rw [hw]; exact Below.refl _ _⟩

set_option maxHeartbeats 400000 in
theorem to_bigs {b : Bool} (v : Value) (zs : List Int) (w : World) (h : RowOf iV w v zs) (hl : zs.length ≤ 1099511627776) :
    Calls Try.prog 14 #[.agg #[.bool b, v]] w fun e w' => ∃ v', e = .returned (.agg #[.bool b, v']) ∧ OwnI w' w.heap.size v' zs ∧ Below w.heap.size w w' := by
  have H := Lib.hid (fun W (hW : Below w.heap.size w W) => to_ints v zs W (rowOf_below h hW) hl)
  obtain ⟨a, c, rfl, h1, h2, h3⟩ := h
  clear h1 h2 h3
  go_enter Try.func14, Try.ntmps14
  go_wp2_with fail
  have bA := (((Below.refl w.heap.size w).alloc (Nat.le_refl _) (.cells #[.bool b, .slice a zs.length c] 24)).alloc (by simp) (.cells #[.bool false, .slice none 0 0] 27)).alloc (by simp; omega) (.cells #[.bool b, .slice none 0 0] 27)
  refine (H.out _ bA).mono ?_
  rintro e w1 ⟨v', rfl, o1, b1⟩
  obtain ⟨a1, c1, rfl⟩ := o1.slice
  have O1 := Lib.hid o1
  have BA := Lib.hid (bA.trans (b1.mono (by simp; omega)))
  obtain ⟨hc, hf⟩ := bcell b1
  have hz : w.heap.size + 1 + 1 < w1.heap.size := by have := b1.size; simp at this; omega
  clear bA b1 o1
  go_wp2
  have hB := O1.out
  simp only [World.size_alloc] at hB
  exact bodyPost_ret (v := .agg #[.bool b, .slice a1 zs.length c1]) (by simp [results, Try.results14, go_sem, hc, hz]) rfl ⟨_, rfl, (((hB.old (by omega) _ _).old (by omega) _ _).old (by omega) _ _).base (by omega), ((BA.out.setCell (by simp; omega) _).setCell (by simp) _).setCell (by simp) _⟩

set_option maxHeartbeats 400000 in
theorem eq_bigsB {b : Bool} (v1 v2 : Value) (ss : List Int) (w : World) (h1 : RowOf iV w v1 ss) (h2 : RowOf iV w v2 ss) :
    Calls Try.prog 16 #[.agg #[.bool b, v1], .agg #[.bool b, v2]] w fun e w' => e = .returned (.bool true) ∧ Below w.heap.size w w' := by
  have H := Lib.hid (fun W (hW : Below w.heap.size w W) => eq_intsB v1 v2 ss W (rowOf_below h1 hW) (rowOf_below h2 hW))
  obtain ⟨a, c, rfl, e1, e2, e3⟩ := h1
  obtain ⟨a', c', rfl, e4, e5, e6⟩ := h2
  clear e1 e2 e3 e4 e5 e6
  have hbb : (b != b) = false := by simp
  go_enter Try.func16, Try.ntmps16
  go_wp2_with fail
  have bA := ((Below.refl w.heap.size w).alloc (Nat.le_refl _) (.cells #[.bool b, .slice a ss.length c] 27)).alloc (by simp) (.cells #[.bool b, .slice a' ss.length c'] 27)
  refine (H.out _ bA).mono ?_
  rintro e w1 ⟨rfl, b1⟩
  have BA := Lib.hid (bA.trans (b1.mono (by simp; omega)))
  clear b1 bA
  go_wp2
  go_ret
  exact ⟨rfl, BA.out⟩

set_option maxHeartbeats 400000 in
theorem mark_bigs {b : Bool} (v : Value) (m : Nat) (mi : Int) (l : List Int) (B : Nat) (w : World) (hmi : mi = m) (h : OwnI w B v l) (hm : m + l.length ≤ 9223372036854775807) :
    Calls Try.prog 19 #[.agg #[.bool b, v], .int .i64 mi] w fun e w' => e = .returned (.int .i64 ((m : Int) + (l.length : Int))) ∧ OwnI w' B v (marks m l.length) ∧ w.grownBy w' v.ownBlock := by
  have H := Lib.hid (fun o => mark_ints v m mi l B (w.alloc o) hmi (h.alloc o) hm)
  obtain ⟨a, c, rfl⟩ := h.slice
  clear h hm hmi
  go_enter Try.func19, Try.ntmps19
  go_wp2_with fail
  refine (H.out _).mono ?_
  rintro e w1 ⟨rfl, o1, b1⟩
  have O1 := Lib.hid o1
  have G1 := Lib.hid (grownBy_trans (World.grownBy_alloc w (.cells #[.bool b, .slice a l.length c] 27) _) b1)
  clear o1 b1
  go_wp2
  go_ret
  exact ⟨rfl, O1.out, G1.out⟩

set_option maxHeartbeats 400000 in
theorem held_bigsB {b : Bool} (v : Value) (n m : Nat) (mi : Int) (w : World) (hmi : mi = m) (h : RowOf iV w v (marks m n)) (hm : m + n ≤ 9223372036854775807) :
    Calls Try.prog 20 #[.agg #[.bool b, v], .int .i64 mi] w fun e w' => e = .returned (.int .i64 ((m : Int) + (n : Int))) ∧ Below w.heap.size w w' := by
  have H := Lib.hid (fun W (hW : Below w.heap.size w W) => held_intsB v n m mi W hmi (rowOf_below h hW) hm)
  obtain ⟨a, c, rfl, e1, e2, e3⟩ := h
  rw [marks_length] at H ⊢
  clear e1 e2 e3 hm hmi
  go_enter Try.func20, Try.ntmps20
  go_wp2_with fail
  have bA := (Below.refl w.heap.size w).alloc (Nat.le_refl _) (.cells #[.bool b, .slice a n c] 27)
  refine (H.out _ bA).mono ?_
  rintro e w1 ⟨rfl, b1⟩
  have BA := Lib.hid (bA.trans (b1.mono (by simp)))
  clear b1 bA
  go_wp2
  go_ret
  exact ⟨rfl, BA.out⟩

theorem Bx.set {w : World} {p : Nat} {t : TypeId} {b b' : Bool} {v v' : Value} (h : Bx w p t b v) : Bx ((w.setCell ⟨p, 0, none⟩ (.bool b')).setCell ⟨p, 1, none⟩ v') p t b' v' := by
  have h1 : (w.setCell ⟨p, 0, none⟩ (.bool b')).heap[p]? = some (.cells #[.bool b', v] t (0, 0)) := by simp [World.setCell, Array.getElem?_modify, show w.heap[p]? = _ from h]
  show ((w.setCell ⟨p, 0, none⟩ (.bool b')).setCell ⟨p, 1, none⟩ v').heap[p]? = some (.cells #[.bool b', v'] t (0, 0))
  generalize w.setCell ⟨p, 0, none⟩ (.bool b') = w1 at h1 ⊢
  simp [World.setCell, Array.getElem?_modify, h1]
theorem own_bx2 {w : World} {p : Nat} {t : TypeId} {b : Bool} {v u : Value} {l : List Int} {B : Nat} (ho : OwnI w B u l) (h : Bx w p t b v) (ht : t ≠ 3) (x y : Value) : OwnI ((w.setCell ⟨p, 0, none⟩ x).setCell ⟨p, 1, none⟩ y) B u l := by
  have hne : ∀ g, u.ownBlock = some g → p ≠ g := by
    intro g e1 e2
    subst e2
    rcases ho.2 with ⟨rfl, _⟩ | ⟨g', cap, cur, rfl, _, hgb, _⟩
    · simp [Value.ownBlock] at e1
    · have e2 : g' = p := by simpa [Value.ownBlock] using e1
      subst e2
      have h2 : w.heap[g']? = _ := h
      rw [hgb] at h2
      injection h2 with h2
      injection h2 with _ h3 _
      exact ht h3.symm
  refine (ho.other (setCell_grown w p 0 x) (fun g g' e1 e2 => ?_)).other (setCell_grown _ p 1 y) (fun g g' e1 e2 => ?_)
  · have : p = g' := by simpa using e2
    subst this; exact fun e => hne g e1 e.symm
  · have : p = g' := by simpa using e2
    subst this; exact fun e => hne g e1 e.symm
/-- a BigInt that came in: a sign and a row of limbs -/
theorem big_in {H : Type} {enc : TypeId × Value → H} {W : World} {r : Reach} {b0 : Nat} {v : Value} {d : DataW H} {p : List MemPlace}
    (hv : Value.okWide Try.prog W r b0 24 v) (h : DataW.Trod enc Try.prog W 0 (fun _ => true) true 24 v d p) : ∃ (b : Bool) (u : Value) (zs : List Int), v = .agg #[.bool b, u] ∧ RowOf iV W u zs ∧ True := by
  obtain ⟨v0, v1, y0, y1, n, rfl, _, _, h0, h1⟩ := Go.Joins.open_agg2 Try.underlying24 (by kernel_rfl) (by kernel_rfl) hv h
  obtain ⟨b, hb, _⟩ := DataW.trod_bool Try.underlying4 h0
  obtain rfl : v0 = .bool b := by simpa using hb
  have hs : ∃ a l c, v1 = .slice a l c := by
    rcases open_ints Try.underlying22 Try.underlying3 (by kernel_rfl) h1 with ⟨hcs, _⟩ | ⟨x, l', c', zs, hcs, _⟩
    · exact ⟨none, 0, 0, by simpa using hcs⟩
    · exact ⟨some x, l', c', by simpa using hcs⟩
  obtain ⟨a, l, c, rfl⟩ := hs
  obtain ⟨zs, hz, _⟩ := ints_in (enc := enc) (W := W) (a := a) (l := l) (c := c) (d := y1.1) (p := y1.2) ⟨n, h1⟩
  exact ⟨b, _, zs, rfl, hz, trivial⟩

end Go.Proofs.Ytofmpfcbdemcnaa
