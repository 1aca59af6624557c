/- Matx MatId. -/
import Derived.Test.YtlepgkkpopjgoaaGreatYVecZero
import Derived.Deep.RegionLaw
namespace Go.Proofs.YtlepgkkpopjgoaaGreat
set_option maxRecDepth 100000
set_option linter.unusedVariables false
set_option linter.unusedSimpArgs false
open Go.RowKit Go.WideShapes Go.ChangeShapes Go.Deep
set_option linter.unusedVariables false
set_option linter.unusedSimpArgs false
def B3 (w : World) (p : Nat) (t : TypeId) (x y z : Value) : Prop := w.heap[p]? = some (.cells #[x, y, z] t (0, 0))
section
variable {w w' : World} {p : Nat} {t : TypeId} {x y z : Value}
theorem B3.lt (h : B3 w p t x y z) : p < w.heap.size := (Array.getElem?_eq_some_iff.1 h).1
theorem B3.new (w : World) (t : TypeId) (x y z : Value) : B3 (w.alloc (.cells #[x, y, z] t)) w.heap.size t x y z := World.alloc_heap_new w _
theorem B3.below (h : B3 w p t x y z) (hb : Below w.heap.size w w') : B3 w' p t x y z := (hb.block p h.lt).trans h
theorem B3.keptK {S : Nat → Prop} (h : B3 w p t x y z) (hk : Kept S w w') (hn : ¬ S p) : B3 w' p t x y z := (hk.block p h.lt hn).trans h
theorem B3.alloc (h : B3 w p t x y z) (o : Obj) : B3 (w.alloc o) p t x y z := h.keptK (S := fun _ => False) ((Kept.refl _ w).trans (Kept.of_below ((Below.refl _ _).alloc (Nat.le_refl _) _))) (fun h => h)
theorem B3.drew (h : B3 w p t x y z) : B3 w.drew p t x y z := h
theorem B3.c0 (h : B3 w p t x y z) : w.cell? ⟨p, 0, none⟩ = some x := by simp [World.cell?, show w.heap[p]? = _ from h]
theorem B3.c1 (h : B3 w p t x y z) : w.cell? ⟨p, 1, none⟩ = some y := by simp [World.cell?, show w.heap[p]? = _ from h]
theorem B3.c2 (h : B3 w p t x y z) : w.cell? ⟨p, 2, none⟩ = some z := by simp [World.cell?, show w.heap[p]? = _ from h]
theorem B3.f (h : B3 w p t x y z) (j : Nat) : w.frozen? ⟨p, j, none⟩ = false := by simp [World.frozen?, show w.heap[p]? = _ from h]
theorem B3.set (h : B3 w p t x y z) (j : Nat) (u : Value) : (w.setCell ⟨p, j, none⟩ u).heap[p]? = some (.cells ((#[x, y, z] : Array Value).setIfInBounds j u) t (0, 0)) := by
 simp [World.setCell, Array.getElem?_modify, show w.heap[p]? = _ from h]
theorem B3.set0 (h : B3 w p t x y z) (u : Value) : B3 (w.setCell ⟨p, 0, none⟩ u) p t u y z := h.set 0 _
theorem B3.set1 (h : B3 w p t x y z) (u : Value) : B3 (w.setCell ⟨p, 1, none⟩ u) p t x u z := h.set 1 _
theorem B3.set2 (h : B3 w p t x y z) (u : Value) : B3 (w.setCell ⟨p, 2, none⟩ u) p t x y u := h.set 2 _
theorem B3.set3 (h : B3 w p t x y z) (a b c : Value) : B3 (((w.setCell ⟨p, 0, none⟩ a).setCell ⟨p, 1, none⟩ b).setCell ⟨p, 2, none⟩ c) p t a b c := ((h.set0 a).set1 b).set2 c
end
theorem b3_at {w : World} {p q : Nat} {t : TypeId} {x y z : Value} (h : B3 w p t x y z) (e : q = p) : B3 w q t x y z := by rw [e]; exact h
theorem OwnV.not_b3 {w : World} {B p : Nat} {v : Value} {L : List Fr} {xs : List (Value × Value)} {t : TypeId} {x y z : Value} (h : OwnV w B v L xs) (D : B3 w p t x y z) (h1 : t ≠ 34) (h2 : t ≠ 3) : ¬ OnV v xs p := by
 have D' : w.heap[p]? = some (.cells #[x, y, z] t (0, 0)) := D
 have key : ∀ (u : Value) (l : List Int), OwnI w B u l → u.ownBlock ≠ some p := by
  intro u l ho e
  rcases ho.2 with ⟨rfl, _⟩ | ⟨g1, cap1, cur1, rfl, _, hg1, _⟩
  ·simp [Value.ownBlock] at e
  ·have e1 : g1 = p := by simpa [Value.ownBlock] using e
   subst e1
   rw [hg1] at D'
   injection D' with D'
   injection D' with _ h3 _
   exact h2 h3.symm
 rintro (e | ⟨q, hq, e⟩)
 ·rcases h.row.2 with ⟨rfl, _⟩ | ⟨g1, cap1, cur1, rfl, _, hg1, _⟩
  ·simp [Value.ownBlock] at e
  ·have e1 : g1 = p := by simpa [Value.ownBlock] using e
   subst e1
   rw [hg1] at D'
   injection D' with D'
   injection D' with _ h3 _
   exact h1 h3.symm
 ·obtain ⟨i, hi, rfl⟩ := List.getElem_of_mem hq
  have hr := h.each i (by have := h.len; omega) hi
  rcases e with e | e
  ·exact key _ _ hr.1 e
  ·exact key _ _ hr.2.1 e
theorem OwnV.set_b3 {w : World} {B p : Nat} {v : Value} {L : List Fr} {xs : List (Value × Value)} {t : TypeId} {x y z : Value} (h : OwnV w B v L xs) (D : B3 w p t x y z) (h1 : t ≠ 34) (h2 : t ≠ 3) (j : Nat) (u : Value) : OwnV (w.setCell ⟨p, j, none⟩ u) B v L xs :=
 h.kept (kept_set w p j u) (fun k hk e => h.not_b3 D h1 h2 (by rw [← e]; exact hk))
theorem OwnV.set3_b3 {w : World} {B p : Nat} {v : Value} {L : List Fr} {xs : List (Value × Value)} {t : TypeId} {x y z : Value} (h : OwnV w B v L xs) (D : B3 w p t x y z) (h1 : t ≠ 34) (h2 : t ≠ 3) (a b c : Value) :
  OwnV (((w.setCell ⟨p, 0, none⟩ a).setCell ⟨p, 1, none⟩ b).setCell ⟨p, 2, none⟩ c) B v L xs :=
 ((h.set_b3 D h1 h2 0 a).set_b3 (D.set0 a) h1 h2 1 b).set_b3 ((D.set0 a).set1 b) h1 h2 2 c
theorem ratsAt_form {w : World} {v : Value} {L : List Fr} (h : RatsAt w v L) : ∃ a c, v = .slice a L.length c ∧ L.length ≤ c ∧ c ≤ 2 ^ 63 - 1 := by
 obtain ⟨a, c, rfl, h1, h2, _⟩ := h
 exact ⟨a, c, rfl, h1, by unfold maxLen at h2; omega⟩
theorem sz_mat_yes (r c : Int) (v : Value) (L : List Fr) (left : Int) (w : World) (h : RatsAt w v L) (h0 : 0 ≤ left ∧ left ≤ 1048576) (h1 : (L.length : Int) + szL L ≤ left) :
  Calls Tryz.prog 27 #[.agg #[.int .i64 r, .int .i64 c, v], .int .i64 left] w fun e w' => e = .returned (.int .i64 (left - L.length - szL L)) ∧ Below w.heap.size w w' := by
 have HA := Lib.hid h
 obtain ⟨a, k, rfl, _, _⟩ := ratsAt_form h
 have T := fun o => sz_ratv_yes _ L left (w.alloc o) (h.below ((Below.refl _ _).alloc (Nat.le_refl _) o)) h0 h1
 obtain ⟨X, hX⟩ : ∃ X, X = left - (L.length : Int) - szL L := ⟨_, rfl⟩
 rw [← hX] at T ⊢
 have hx : ¬ X < 0 := by omega
 obtain ⟨n, hn⟩ : ∃ n, L.length = n := ⟨_, rfl⟩
 rw [hn] at T ⊢
 have HT := Lib.hid T
 clear hX T h0 h1 hn h
 go_enter Tryz.func27, Tryz.ntmps27
 go_wp2_with fail
 refine (HT.out _).mono ?_
 rintro e w1 ⟨rfl, b1⟩
 have B1 := Lib.hid (((Below.refl w.heap.size w).alloc (Nat.le_refl _) (.cells #[.int .i64 r, .int .i64 c, .slice a n k] 55)).trans (b1.mono (by simp)))
 clear b1
 go_wp2
 go_ret
 exact ⟨rfl, B1.out⟩
theorem sz_mat_no (r c : Int) (v : Value) (L : List Fr) (left : Int) (w : World) (h : RatsAt w v L) (h0 : 0 ≤ left ∧ left ≤ 1048576) (h1 : ¬ (L.length : Int) + szL L ≤ left) :
  Calls Tryz.prog 27 #[.agg #[.int .i64 r, .int .i64 c, v], .int .i64 left] w fun e w' => e = .returned (.int .i64 (-1)) ∧ Below w.heap.size w w' := by
 obtain ⟨a, k, rfl, _, _⟩ := ratsAt_form h
 have T := fun o => sz_ratv_no _ L left (w.alloc o) (h.below ((Below.refl _ _).alloc (Nat.le_refl _) o)) h0 h1
 obtain ⟨n, hn⟩ : ∃ n, L.length = n := ⟨_, rfl⟩
 rw [hn] at T ⊢
 have HT := Lib.hid T
 clear T h0 h1 hn h
 go_enter Tryz.func27, Tryz.ntmps27
 go_wp2_with fail
 refine (HT.out _).mono ?_
 rintro e w1 ⟨rfl, b1⟩
 have B1 := Lib.hid (((Below.refl w.heap.size w).alloc (Nat.le_refl _) (.cells #[.int .i64 r, .int .i64 c, .slice a n k] 55)).trans (b1.mono (by simp)))
 clear b1
 go_wp2
 go_ret
 exact ⟨rfl, B1.out⟩
theorem held_mat (r c : Int) (v : Value) (m : Nat) (mi : Int) (L : List Fr) (w : World) (hmi : mi = m) (h : RatsAt w v (markV m L)) (hm : m + cntL L ≤ 3000000) :
  Calls Tryz.prog 34 #[.agg #[.int .i64 r, .int .i64 c, v], .int .i64 mi] w fun e w' => e = .returned (.int .i64 ((m : Int) + cntL L)) ∧ Below w.heap.size w w' := by
 subst hmi
 obtain ⟨a, k, rfl, _, _⟩ := ratsAt_form h
 have T := fun o => held_ratv _ m m L (w.alloc o) rfl (h.below ((Below.refl _ _).alloc (Nat.le_refl _) o)) (by omega)
 obtain ⟨n, hn⟩ : ∃ n, (markV m L).length = n := ⟨_, rfl⟩
 rw [hn] at T ⊢
 obtain ⟨q, hq⟩ : ∃ q, cntL L = q := ⟨_, rfl⟩
 rw [hq] at T hm ⊢
 have hx : ¬ ((m : Int) + (q : Int) < 0) := by omega
 have HT := Lib.hid T
 clear T hn hq h
 go_enter Tryz.func34, Tryz.ntmps34
 go_wp2_with fail
 refine (HT.out _).mono ?_
 rintro e w1 ⟨rfl, b1⟩
 have B1 := Lib.hid (((Below.refl w.heap.size w).alloc (Nat.le_refl _) (.cells #[.int .i64 r, .int .i64 c, .slice a n k] 25)).trans (b1.mono (by simp)))
 clear b1
 go_wp2
 go_ret
 exact ⟨rfl, B1.out⟩
theorem mark_mat (r c : Int) (v : Value) (m : Nat) (mi : Int) (L : List Fr) (xs : List (Value × Value)) (B : Nat) (w : World) (hmi : mi = m) (h : OwnV w B v L xs) (hm : m + cntL L ≤ 9223372036854775807) (hn : L.length ≤ 1099511627776) :
  Calls Tryz.prog 32 #[.agg #[.int .i64 r, .int .i64 c, v], .int .i64 mi] w fun e w' => e = .returned (.int .i64 ((m : Int) + cntL L)) ∧ OwnV w' B v (markV m L) xs ∧ Kept (OnV v xs) w w' := by
 subst hmi
 have T := fun o => mark_ratv v m m L xs B (w.alloc o) rfl (h.alloc o) hm hn
 obtain ⟨a, k, rfl⟩ := h.slice
 obtain ⟨n, hnn⟩ : ∃ n, L.length = n := ⟨_, rfl⟩
 rw [hnn] at T ⊢
 have HT := Lib.hid T
 clear T hnn h hm hn
 go_enter Tryz.func32, Tryz.ntmps32
 go_wp2_with fail
 refine (HT.out _).mono ?_
 rintro e w1 ⟨rfl, o1, k1⟩
 have O1 := Lib.hid o1
 have K1 := Lib.hid ((Kept.of_below (S := OnV (.slice a n k) xs) ((Below.refl w.heap.size w).alloc (Nat.le_refl _) (.cells #[.int .i64 r, .int .i64 c, .slice a n k] 25))).trans k1)
 clear o1 k1
 go_wp2
 go_ret
 exact ⟨rfl, O1.out, K1.out⟩
theorem eq_mat (r c : Int) (v1 v2 : Value) (L : List Fr) (w : World) (h1 : RatsAt w v1 L) (h2 : RatsAt w v2 L) (hn : L.length ≤ 1048576) :
  Calls Tryz.prog 30 #[.agg #[.int .i64 r, .int .i64 c, v1], .agg #[.int .i64 r, .int .i64 c, v2]] w fun e w' => e = .returned (.bool true) ∧ Below w.heap.size w w' := by
 have T := Lib.hid (fun W (hW : Below w.heap.size w W) => eq_ratv v1 v2 L W (h1.below hW) (h2.below hW) hn)
 obtain ⟨a, k, rfl, _, _⟩ := ratsAt_form h1
 obtain ⟨a', k', rfl, _, _⟩ := ratsAt_form h2
 obtain ⟨n, hnn⟩ : ∃ n, L.length = n := ⟨_, rfl⟩
 rw [hnn] at T ⊢
 clear hnn h1 h2 hn
 go_enter Tryz.func30, Tryz.ntmps30
 go_wp2_with fail
 have bA := ((Below.refl w.heap.size w).alloc (Nat.le_refl _) (.cells #[.int .i64 r, .int .i64 c, .slice a n k] 25)).alloc (by simp) (.cells #[.int .i64 r, .int .i64 c, .slice a' n k'] 25)
 refine (T.out _ bA).mono ?_
 rintro e w1 ⟨rfl, b1⟩
 have B1 := Lib.hid (bA.trans (b1.mono (by simp; omega)))
 clear b1 bA
 go_wp2
 go_ret
 exact ⟨rfl, B1.out⟩
set_option maxHeartbeats 1000000 in
theorem to_mat (r c : Int) (v : Value) (L : List Fr) (w : World) (h : RatsAt w v L) (hn : L.length ≤ 1048576) (hl : ∀ f ∈ L, f.mag.length ≤ 1099511627776 ∧ f.den.length ≤ 1099511627776) :
  Calls Tryz.prog 29 #[.agg #[.int .i64 r, .int .i64 c, v]] w fun e w' => ∃ v' xs, e = .returned (.agg #[.int .i64 r, .int .i64 c, v']) ∧ OwnV w' w.heap.size v' L xs ∧ Below w.heap.size w w' := by
 have T := Lib.hid (fun W (hW : Below w.heap.size w W) => to_ratv v L W (h.below hW) hn hl)
 obtain ⟨a, k, rfl, _, _⟩ := ratsAt_form h
 obtain ⟨n, hnn⟩ : ∃ n, L.length = n := ⟨_, rfl⟩
 rw [hnn] at T ⊢
 have HN := Lib.hid hnn
 clear hnn h hn hl
 go_enter Tryz.func29, Tryz.ntmps29
 go_wp2_with fail
 obtain ⟨W3, hW3⟩ : ∃ x, x = ((w.alloc (.cells #[.int .i64 r, .int .i64 c, .slice a n k] 55)).alloc (.cells #[.int .i64 0, .int .i64 0, .slice none 0 0] 25)).alloc (.cells #[.int .i64 r, .int .i64 c, .slice none 0 0] 25) := ⟨_, rfl⟩
 have b3 : Below w.heap.size w W3 := by rw [hW3]; exact (((Below.refl _ _).alloc (Nat.le_refl _) _).alloc (by simp) _).alloc (by simp; omega) _
 have D1 : B3 W3 (w.heap.size + 1) 25 (.int .i64 0) (.int .i64 0) (.slice none 0 0) := by
  rw [hW3]
  have h := (B3.new (w.alloc (.cells #[.int .i64 r, .int .i64 c, .slice a n k] 55)) 25 (.int .i64 0) (.int .i64 0) (.slice none 0 0)).alloc (.cells #[.int .i64 r, .int .i64 c, .slice none 0 0] 25)
  rw [World.size_alloc] at h
  exact h
 have D2 : B3 W3 (w.heap.size + 1 + 1) 25 (.int .i64 r) (.int .i64 c) (.slice none 0 0) := by
  rw [hW3]
  have h := B3.new ((w.alloc (.cells #[.int .i64 r, .int .i64 c, .slice a n k] 55)).alloc (.cells #[.int .i64 0, .int .i64 0, .slice none 0 0] 25)) 25 (.int .i64 r) (.int .i64 c) (.slice none 0 0)
  rw [World.size_alloc, World.size_alloc] at h
  exact h
 have hsz : W3.heap.size = w.heap.size + 1 + 1 + 1 := by rw [hW3]; simp
 rw [← hW3]
 clear hW3
 refine (T.out _ b3).mono ?_
 rintro e w4 ⟨v', xs, rfl, o4, b4⟩
 obtain ⟨a', c', rfl⟩ := o4.slice
 rw [HN.out] at o4 ⊢
 have E1 := D1.below b4
 have E2 := D2.below b4
 have F2 := E2.set2 (.slice a' n c')
 have F1 := E1.keptK (kept_set w4 (w.heap.size + 1 + 1) 2 (.slice a' n c')) (fun e => by omega)
 have F1s := F1.set3 (.int .i64 r) (.int .i64 c) (.slice a' n c')
 have O6 := Lib.hid ((((o4.set_b3 E2 (by decide) (by decide) 2 (.slice a' n c')).set3_b3 F1 (by decide) (by decide) (.int .i64 r) (.int .i64 c) (.slice a' n c'))).base (by rw [hsz]; omega : w.heap.size ≤ W3.heap.size))
 have B6 := Lib.hid (((((b3.trans (b4.mono b3.size)).setCell (p := ⟨w.heap.size + 1 + 1, 2, none⟩) (show w.heap.size ≤ w.heap.size + 1 + 1 by omega) (.slice a' n c')).setCell (p := ⟨w.heap.size + 1, 0, none⟩) (Nat.le_succ _) (.int .i64 r)).setCell (p := ⟨w.heap.size + 1, 1, none⟩) (Nat.le_succ _) (.int .i64 c)).setCell (p := ⟨w.heap.size + 1, 2, none⟩) (Nat.le_succ _) (.slice a' n c'))
 have i2 := E2.c2
 have j2 := E2.f 2
 have k0 := F2.c0
 have k1 := F2.c1
 have k2 := F2.c2
 have l0 := F1.c0
 have l1 := F1.c1
 have l2 := F1.c2
 have m0 := F1.f 0
 have m1 := F1.f 1
 have m2 := F1.f 2
 have n0 := F1s.c0
 have n1 := F1s.c1
 have n2 := F1s.c2
 clear E1 E2 F1 F2 F1s D1 D2 o4 b4 b3 T hsz
 go_wp2
 exact bodyPost_ret (v := .agg #[.int .i64 r, .int .i64 c, .slice a' n c']) (by simp [results, Tryz.results29, go_sem, n0, n1, n2]) rfl ⟨_, xs, rfl, O6.out, B6.out⟩
set_option maxRecDepth 100000 in
theorem mat_in {H : Type} {enc : TypeId × Value → H} {W : World} {r : Reach} {b0 : Nat} {v : Value} {d : DataW H} {p : List MemPlace}
  (hv : Value.okWide Tryz.prog W r b0 55 v) (h : DataW.Trod enc Tryz.prog W 0 (fun _ => true) true 55 v d p) :
  ∃ (rows cols : Int) (u : Value) (L : List Fr), v = .agg #[.int .i64 rows, .int .i64 cols, u] ∧ (Lit.int .i64 rows).wf = true ∧ (Lit.int .i64 cols).wf = true ∧ RatsAt W u L ∧ True := by
 obtain ⟨v0, v1, v2, y0, y1, y2, n, rfl, _, _, h0, h1, h2⟩ := Go.Joins.open_agg3 Tryz.underlying55 (by kernel_rfl) (by kernel_rfl) hv h
 obtain ⟨rows, hr, _, wr⟩ := DataW.trod_int Tryz.underlying3 h0
 obtain ⟨cols, hc, _, wc⟩ := DataW.trod_int Tryz.underlying3 h1
 obtain rfl : v0 = .int .i64 rows := by simpa using hr
 obtain rfl : v1 = .int .i64 cols := by simpa using hc
 have hs : ∃ a l c, v2 = .slice a l c := by
  rcases open_slice Tryz.underlying53 h2 with ⟨hcs, _⟩ | ⟨x, len, cap, m, n, D, Pl, hcs, _⟩
  ·exact ⟨none, 0, 0, by simpa using hcs⟩
  ·exact ⟨some x, len, cap, by simpa using hcs⟩
 obtain ⟨a, l, c, rfl⟩ := hs
 obtain ⟨L, hL, _⟩ := rats_in (enc := enc) (W := W) (a := a) (l := l) (c := c) (d := y2.1) (p := y2.2) ⟨n, h2⟩
 exact ⟨rows, cols, _, L, rfl, wr, wc, hL, trivial⟩
end Go.Proofs.YtlepgkkpopjgoaaGreat
namespace Go.Proofs.YtlepgkkpopjgoaaGreat
set_option maxRecDepth 100000
set_option linter.unusedVariables false
set_option linter.unusedSimpArgs false
open Go.RowKit Go.WideShapes Go.ChangeShapes
set_option linter.unusedVariables false
set_option linter.unusedSimpArgs false
def dimB (n : Int) : Bool := decide (0 ≤ n) && decide (n ≤ 24)
theorem dimB_iff {n : Int} : dimB n = true ↔ 0 ≤ n ∧ n ≤ 24 := by unfold dimB; simp
def matB (ok : Bool → List Int → List Int → Bool) (r c : Int) (L : List Fr) : Bool := dimB r && (dimB c && (decide ((L.length : Int) = r * c) && L.all (fun f => ok f.neg f.mag f.den)))
theorem dim_mul {r c : Int} (hr : dimB r = true) (hc : dimB c = true) : 0 ≤ r * c ∧ r * c ≤ 576 := by
 obtain ⟨h1, h2⟩ := dimB_iff.1 hr
 obtain ⟨h3, h4⟩ := dimB_iff.1 hc
 obtain ⟨a, rfl⟩ : ∃ a : Nat, r = a := ⟨r.toNat, by omega⟩
 obtain ⟨b, rfl⟩ : ∃ b : Nat, c = b := ⟨c.toNat, by omega⟩
 have h : a * b ≤ 24 * 24 := Nat.mul_le_mul (by omega) (by omega)
 refine ⟨Int.mul_nonneg h1 h3, ?_⟩
 have h' : ((a * b : Nat) : Int) ≤ 576 := by omega
 rw [Int.natCast_mul] at h'
 exact h'
set_option maxHeartbeats 1000000 in
theorem spec_matrixOk (ok : Bool → List Int → List Int → Bool)
  (HOK : ∀ b v zs d ds w, RowR w v zs d ds → Calls Tryz.prog 120 #[.agg #[.bool b, v, d]] w fun r w' => r = .returned (.bool (ok b zs ds)) ∧ Below w.heap.size w w')
  (r c : Int) (v : Value) (L : List Fr) (w : World) (h : RatsAt w v L) :
  Calls Tryz.prog 77 #[.agg #[.int .i64 r, .int .i64 c, v]] w fun e w' => e = .returned (.bool (matB ok r c L)) ∧ Below w.heap.size w w' := by
 obtain ⟨a, cap, rfl, hc, hm, hr⟩ := h
 unfold maxLen at hm
 obtain ⟨n, hnn⟩ : ∃ n, L.length = n := ⟨_, rfl⟩
 have R := Lib.hid hr
 clear hr
 rw [hnn] at hc ⊢
 have HN := Lib.hid hnn
 clear hnn
 obtain ⟨x, hx⟩ : ∃ x, x = matB ok r c L := ⟨_, rfl⟩
 rw [← hx]
 have HX := Lib.hid hx
 clear hx
 cases q0 : dimB r with
 | false =>
  obtain rfl : x = false := HX.out.trans (by unfold matB; rw [q0]; rfl)
  have p0 : (decide (0 ≤ r) && decide (r ≤ 24)) = false := q0
  clear q0
  go_enter Tryz.func77, Tryz.ntmps77
  go_wp2_with fail
  obtain ⟨W0, hW0⟩ : ∃ x, x = w.alloc (.cells #[.int .i64 r, .int .i64 c, .slice a n cap] 25) := ⟨_, rfl⟩
  have D := Lib.hid (show B3 W0 w.heap.size 25 (.int .i64 r) (.int .i64 c) (.slice a n cap) by rw [hW0]; exact B3.new _ _ _ _ _)
  have B0 := Lib.hid (show Below w.heap.size w W0 by rw [hW0]; exact (Below.refl _ _).alloc (Nat.le_refl _) _)
  have z := Lib.hid (show w.heap.size < W0.heap.size by rw [hW0]; simp)
  rw [← hW0]
  clear hW0
  have d0 := D.out.c0
  have d1 := D.out.c1
  have d2 := D.out.c2
  refine (spec_in _ _ _ _).mono ?_
  rw [p0]
  rintro e w' ⟨rfl, h9⟩
  replace h9 := h9.symm
  subst h9
  go_wp2
  go_ret
  exact ⟨rfl, B0.out⟩
 | true =>
 have p0 : (decide (0 ≤ r) && decide (r ≤ 24)) = true := q0
 cases q1 : dimB c with
 | false =>
  obtain rfl : x = false := HX.out.trans (by unfold matB; rw [q1]; simp)
  have p1 : (decide (0 ≤ c) && decide (c ≤ 24)) = false := q1
  clear q0 q1
  go_enter Tryz.func77, Tryz.ntmps77
  go_wp2_with fail
  obtain ⟨W0, hW0⟩ : ∃ x, x = w.alloc (.cells #[.int .i64 r, .int .i64 c, .slice a n cap] 25) := ⟨_, rfl⟩
  have D := Lib.hid (show B3 W0 w.heap.size 25 (.int .i64 r) (.int .i64 c) (.slice a n cap) by rw [hW0]; exact B3.new _ _ _ _ _)
  have B0 := Lib.hid (show Below w.heap.size w W0 by rw [hW0]; exact (Below.refl _ _).alloc (Nat.le_refl _) _)
  have z := Lib.hid (show w.heap.size < W0.heap.size by rw [hW0]; simp)
  rw [← hW0]
  clear hW0
  refine (spec_in _ _ _ _).mono ?_
  rw [p0]
  rintro e w' ⟨rfl, h9⟩
  replace h9 := h9.symm
  subst h9
  have d0 := D.out.c0
  have d1 := D.out.c1
  have d2 := D.out.c2
  go_wp2_with fail
  refine (spec_in _ _ _ _).mono ?_
  rw [p1]
  rintro e w' ⟨rfl, h9⟩
  replace h9 := h9.symm
  subst h9
  go_wp2
  go_ret
  exact ⟨rfl, B0.out⟩
 | true =>
 have p1 : (decide (0 ≤ c) && decide (c ≤ 24)) = true := q1
 obtain ⟨hm0, hm1⟩ := dim_mul q0 q1
 by_cases hl : (n : Int) = r * c
 rotate_left
 ·obtain rfl : x = false := HX.out.trans (by unfold matB; rw [decide_eq_false (by rw [HN.out]; exact hl)]; simp)
  have hne : ((n : Int) == r * c) = false := by rw [beq_eq_false_iff_ne]; exact hl
  clear q0 q1
  go_enter Tryz.func77, Tryz.ntmps77
  go_wp2_with fail
  obtain ⟨W0, hW0⟩ : ∃ x, x = w.alloc (.cells #[.int .i64 r, .int .i64 c, .slice a n cap] 25) := ⟨_, rfl⟩
  have D := Lib.hid (show B3 W0 w.heap.size 25 (.int .i64 r) (.int .i64 c) (.slice a n cap) by rw [hW0]; exact B3.new _ _ _ _ _)
  have B0 := Lib.hid (show Below w.heap.size w W0 by rw [hW0]; exact (Below.refl _ _).alloc (Nat.le_refl _) _)
  have z := Lib.hid (show w.heap.size < W0.heap.size by rw [hW0]; simp)
  rw [← hW0]
  clear hW0
  refine (spec_in _ _ _ _).mono ?_
  rw [p0]
  rintro e w' ⟨rfl, h9⟩
  replace h9 := h9.symm
  subst h9
  have d0 := D.out.c0
  have d1 := D.out.c1
  have d2 := D.out.c2
  go_wp2_with fail
  refine (spec_in _ _ _ _).mono ?_
  rw [p1]
  rintro e w' ⟨rfl, h9⟩
  replace h9 := h9.symm
  subst h9
  go_wp2
  go_ret
  exact ⟨rfl, B0.out⟩
 have hne : ((n : Int) == r * c) = true := by rw [beq_iff_eq]; exact hl
 have hne2 : ((n : Int) != r * c) = false := by unfold bne; rw [hne]; rfl
 have HE := Lib.hid (show matB ok r c L = L.all (fun f => ok f.neg f.mag f.den) by unfold matB; rw [q0, q1, decide_eq_true (by rw [HN.out]; exact hl)]; rfl)
 have hn9 : n ≤ 576 := by omega
 clear q0 q1 hl
 go_enter Tryz.func77, Tryz.ntmps77
 go_wp2_with fail
 obtain ⟨W0, hW0⟩ : ∃ x, x = w.alloc (.cells #[.int .i64 r, .int .i64 c, .slice a n cap] 25) := ⟨_, rfl⟩
 have D := Lib.hid (show B3 W0 w.heap.size 25 (.int .i64 r) (.int .i64 c) (.slice a n cap) by rw [hW0]; exact B3.new _ _ _ _ _)
 have B0 := Lib.hid (show Below w.heap.size w W0 by rw [hW0]; exact (Below.refl _ _).alloc (Nat.le_refl _) _)
 have z := Lib.hid (show w.heap.size < W0.heap.size by rw [hW0]; simp)
 rw [← hW0]
 clear hW0
 refine (spec_in _ _ _ _).mono ?_
 rw [p0]
 rintro e w' ⟨rfl, h9⟩
 replace h9 := h9.symm
 subst h9
 have d0 := D.out.c0
 have d1 := D.out.c1
 have d2 := D.out.c2
 go_wp2_with fail
 refine (spec_in _ _ _ _).mono ?_
 rw [p1]
 rintro e w' ⟨rfl, h9⟩
 replace h9 := h9.symm
 subst h9
 go_wp2_with fail
 clear d0 d1 d2 p0 p1 hm0 hm1 hne hne2
 have HB := Lib.hid (Below.refl W0.heap.size W0)
 go_loopw [29] (fun iv wr => ∃ k : Nat, k ≤ n ∧ iv = .int .i64 k ∧ Hid ((L.take k).all (fun f => ok f.neg f.mag f.den) = true) ∧ Hid (Below W0.heap.size W0 wr)) (fun iv _ => n - (intOf iv).toNat)
 case atStart => exact ⟨0, Nat.zero_le _, rfl, Lib.hid (by simp), HB⟩
 case round =>
  obtain ⟨k, hk, rfl, HA, HBW⟩ := hrel
  by_cases hlt : k < n
  ·have hltL : k < L.length := by rw [HN.out]; exact hlt
   have HBk := Lib.hid (B0.out.trans (HBW.out.mono B0.out.size))
   obtain ⟨b, o, x', y, rfl, c0, c1, c2, hrr⟩ := R.out k hltL
   have d0 := (HBk.out.cell (World.block_lt_of_cell? w _ c0)).trans c0
   have d1 := (HBk.out.cell (World.block_lt_of_cell? w _ c1)).trans c1
   have d2 := (HBk.out.cell (World.block_lt_of_cell? w _ c2)).trans c2
   have RR := Lib.hid (hrr.below HBk.out)
   obtain ⟨a1, r1, a2, r2, rfl, rfl, hz1, hz2⟩ := rowR_len hrr
   clear c0 c1 c2 R hrr
   cases hq : ok (L[k]'hltL).neg (L[k]'hltL).mag (L[k]'hltL).den with
   | true =>
    go_wp2_with fail
    have bA := (Below.refl wr.heap.size wr).alloc (Nat.le_refl _) (.cells #[.bool (L[k]'hltL).neg, .slice a1 (L[k]'hltL).mag.length r1, .slice a2 (L[k]'hltL).den.length r2] 34)
    have T := HOK (L[k]'hltL).neg _ _ _ _ _ (RR.out.below bA)
    rw [hq] at T
    refine T.mono ?_
    rintro e w1 ⟨rfl, b1⟩
    have BB := Lib.hid (HBW.out.trans ((bA.trans (b1.mono (by simp))).mono HBW.out.size))
    clear b1 T bA
    go_wp2_with fail
    exact ⟨⟨k + 1, by omega, by go_num, Lib.hid (by rw [all_take hltL, HA.out, hq]; rfl), BB⟩, by simp [intOf]; omega⟩
   | false =>
    obtain rfl : x = false := HX.out.trans (HE.out.trans (all_no hltL hq))
    go_wp2_with fail
    have bA := (Below.refl wr.heap.size wr).alloc (Nat.le_refl _) (.cells #[.bool (L[k]'hltL).neg, .slice a1 (L[k]'hltL).mag.length r1, .slice a2 (L[k]'hltL).den.length r2] 34)
    have T := HOK (L[k]'hltL).neg _ _ _ _ _ (RR.out.below bA)
    rw [hq] at T
    refine T.mono ?_
    rintro e w1 ⟨rfl, b1⟩
    have BB := Lib.hid (HBk.out.trans ((bA.trans (b1.mono (by simp))).mono HBk.out.size))
    clear b1 T bA
    go_wp2_with fail
    go_ret
    exact ⟨rfl, BB.out⟩
  ·obtain rfl : k = n := by omega
   have h2 := HA.out
   rw [← HN.out, List.take_length] at h2
   obtain rfl : x = true := HX.out.trans (HE.out.trans h2)
   clear h2
   go_wp2
   go_ret
   exact ⟨rfl, B0.out.trans (HBW.out.mono B0.out.size)⟩
end Go.Proofs.YtlepgkkpopjgoaaGreat
namespace Go.Proofs.YtlepgkkpopjgoaaGreat
set_option maxRecDepth 100000
set_option linter.unusedVariables false
set_option linter.unusedSimpArgs false
open Go.RowKit Go.WideShapes Go.ChangeShapes
set_option linter.unusedVariables false
set_option linter.unusedSimpArgs false
set_option maxRecDepth 100000 in
set_option maxHeartbeats 2000000 in
theorem spec_vecCopy (Q : Fr → Prop)
  (HC : ∀ (f : Fr), Q f → ∀ v d w, RowR w v f.mag d f.den → Calls Tryz.prog 154 #[.agg #[.bool f.neg, v, d]] w fun r w' => ∃ x y, r = .returned (.agg #[.bool f.neg, x, y]) ∧ OwnR w' w.heap.size x f.mag y f.den ∧ Below w.heap.size w w')
  (v : Value) (L : List Fr) (w : World) (h : RatsAt w v L) (hl : L.length ≤ 100000) (HQ : ∀ k (hk : k < L.length), Q (L[k]'hk)) :
  Calls Tryz.prog 121 #[v] w fun e w' => ∃ u xs, e = .returned u ∧ OwnV w' w.heap.size u L xs ∧ Below w.heap.size w w' := by
 obtain ⟨a, cap, rfl, hc, hm, hr⟩ := h
 unfold maxLen at hm
 have R := Lib.hid hr
 have HQ := Lib.hid HQ
 clear hr
 obtain ⟨n, hnn⟩ : ∃ n, L.length = n := ⟨_, rfl⟩
 rw [hnn] at hc hl ⊢
 have HN := Lib.hid hnn
 clear hnn
 go_enter Tryz.func121, Tryz.ntmps121
 go_wp2_with fail
 obtain ⟨W1, hW1⟩ : ∃ x, x = w.alloc (.cells #[] 34) := ⟨_, rfl⟩
 have HO := Lib.hid (show OwnV W1 w.heap.size (.slice (some ⟨w.heap.size, 0, none⟩) 0 0) (L.take 0) [] by rw [hW1]; exact OwnV.lit0 w)
 have HB := Lib.hid (show Below w.heap.size w W1 by rw [hW1]; exact (Below.refl _ _).alloc (Nat.le_refl _) _)
 rw [← hW1]
 clear hW1
 go_loopw [3, 9] (fun ov iv wr => ∃ (k : Nat) (vo : Value), k ≤ n ∧ iv = .int .i64 k ∧ vo = ov ∧ ∃ xs, Hid (OwnV wr w.heap.size vo (L.take k) xs) ∧ Hid (Below w.heap.size w wr)) (fun _ iv _ => n - (intOf iv).toNat)
 case atStart => exact ⟨0, _, Nat.zero_le _, rfl, rfl, _, HO, HB⟩
 case round =>
  obtain ⟨k, vo, hk, rfl, rfl, xs, HK, HBk⟩ := hrel
  by_cases hlt : k < n
  ·have hlt1 : k < L.length := by rw [HN.out]; exact hlt
   obtain ⟨b', o', x', y', rfl, g0, g1, g2, hss⟩ := R.out k hlt1
   have f0 := (HBk.out.cell (World.block_lt_of_cell? w _ g0)).trans g0
   have f1 := (HBk.out.cell (World.block_lt_of_cell? w _ g1)).trans g1
   have f2 := (HBk.out.cell (World.block_lt_of_cell? w _ g2)).trans g2
   have SS := Lib.hid (hss.below HBk.out)
   obtain ⟨a3, r3, a4, r4, rfl, rfl, hz3, hz4⟩ := rowR_len hss
   clear g0 g1 g2 R hss
   obtain ⟨wb, hwb⟩ : ∃ x, x = wr.alloc (.cells #[.bool (L[k]'hlt1).neg, .slice a3 (L[k]'hlt1).mag.length r3, .slice a4 (L[k]'hlt1).den.length r4] 34) := ⟨_, rfl⟩
   have bW : Below wr.heap.size wr wb := by rw [hwb]; exact (Below.refl wr.heap.size wr).alloc (Nat.le_refl _) _
   go_wp2_with fail
   rw [← hwb]
   have O9 := Lib.hid (show OwnV wb w.heap.size vo _ xs by rw [hwb]; exact HK.out.alloc _)
   have B9 := Lib.hid (show Below w.heap.size w wb by rw [hwb]; exact HBk.out.alloc HBk.out.size _)
   have L9 := Lib.hid O9.out.lt
   have BW := Lib.hid B9.out.size
   refine (HC (L[k]'hlt1) (HQ.out k hlt1) _ _ wb (SS.out.below bW)).mono ?_
   rintro e w_r ⟨x_r, y_r, rfl, o_r, bb_r⟩
   obtain ⟨a_r, c_r, e_r, f_r, rfl, rfl⟩ := o_r.slices
   have hbb := bb_r.size
   have lr := o_r.lt
   have hlen : (L.take k).length ≤ 100000 := by simp; omega
   clear hwb f0 f1 f2 HK
   go_wp2_with (at_builtin; refine append_rat rfl _ _ rfl w.heap.size vo _ xs rfl ((O9.out.below bb_r).alloc _) hlen (by have := BW.out; simp; omega) _ _ rfl (L[k]'hlt1) _ _ (World.alloc_heap_new _ _) (OwnR.base (o_r.alloc _) BW.out) (fun i hi r r' h1 h2 => by have h3 := (L9.out r (.inr ⟨_, List.getElem_mem hi, h1⟩)).2; have h4 := (lr r' h2).1; omega) (fun r h2 h1 => by have h3 := (L9.out r (.inl h1)).2; have h4 := (lr r h2).1; omega) ?_; intro v_n w_n o_n g_n l_n)
   exact ⟨⟨k + 1, v_n, by omega, by go_num, rfl, _, Lib.hid (by rw [List.take_succ_eq_append_getElem hlt1]; exact o_n), Lib.hid (((B9.out.trans (bb_r.mono B9.out.size)).alloc (Nat.le_trans BW.out bb_r.size) _).grown g_n (by have := BW.out; simp; omega) (fun q hq => (L9.out q (.inl hq)).1))⟩, by simp [intOf]; omega⟩
  ·obtain rfl : k = n := by omega
   have hT1 : L.take k = L := by rw [← HN.out, List.take_length]
   rw [hT1] at HK
   go_wp2
   go_ret
   first | exact ⟨vo, xs, rfl, HK.out, HBk.out⟩ | exact ⟨vo, rfl, ⟨xs, HK.out⟩, HBk.out⟩
end Go.Proofs.YtlepgkkpopjgoaaGreat
namespace Go.Proofs.YtlepgkkpopjgoaaGreat
set_option maxRecDepth 100000
set_option linter.unusedVariables false
set_option linter.unusedSimpArgs false
open Go.RowKit Go.WideShapes Go.ChangeShapes
set_option linter.unusedVariables false
set_option linter.unusedSimpArgs false
theorem rats_part {w : World} {a : Option Addr} {n cap l C : Nat} {L : List Fr} (h : RatsAt w (.slice a n cap) L) (hl : l + C ≤ n) (hne : ¬ cap = l) : RatsAt w (.slice (a.map (·.add (l * 3))) C (cap - l)) ((L.drop l).take C) := by
 obtain ⟨a0, c0, e, h1, h2, h3⟩ := h
 injection e with e1 e2 e3
 subst e1 e2 e3
 have hlen : ((L.drop l).take C).length = C := by rw [List.length_take, List.length_drop]; omega
 refine ⟨a.map (·.add (l * 3)), cap - l, by rw [hlen], by rw [hlen]; omega, by omega, fun i hi => ?_⟩
 rw [hlen] at hi
 obtain ⟨b, o, x, y, rfl, k0, k1, k2, hr⟩ := h3 (l + i) (by omega)
 have hg : ((L.drop l).take C)[i]'(by rw [hlen]; exact hi) = L[l + i]'(by omega) := by simp
 refine ⟨b, o + l * 3, x, y, by simp [Addr.add], ?_, ?_, ?_, ?_⟩
 ·rw [hg, show o + l * 3 + i * 3 = o + (l + i) * 3 by omega]; exact k0
 ·rw [show o + l * 3 + i * 3 = o + (l + i) * 3 by omega]; exact k1
 ·rw [show o + l * 3 + i * 3 = o + (l + i) * 3 by omega]; exact k2
 ·rw [hg]; exact hr
theorem rats_none {w : World} {a : Option Addr} {c l : Nat} {L : List Fr} (hc : c ≤ maxLen) : RatsAt w (.slice a 0 c) ((L.drop l).take 0) :=
 ⟨a, c, by simp, by simp, hc, fun i hi => by simp at hi⟩
set_option maxHeartbeats 1000000 in
theorem spec_row (r : Int) (C i n : Nat) (a : Option Addr) (cap : Nat) (L : List Fr) (w : World) (h : RatsAt w (.slice a n cap) L) (hi : i * C + C ≤ n) (hn : n ≤ 576) (hC : C ≤ 24) (hi2 : i ≤ 24) :
  Calls Tryz.prog 130 #[.agg #[.int .i64 r, .int .i64 (C : Int), .slice a n cap], .int .i64 (i : Int)] w fun e w' => ∃ v, e = .returned v ∧ RatsAt w' v ((L.drop (i * C)).take C) ∧ Below w.heap.size w w' := by
 have H := Lib.hid h
 obtain ⟨a0, c0, e, h1, h2, h3⟩ := h
 injection e with e1 e2 e3
 subst e1 e2 e3
 clear h3
 unfold maxLen at h2
 obtain ⟨l, hl⟩ : ∃ l, i * C = l := ⟨_, rfl⟩
 have p1 : (i : Int) * (C : Int) = (l : Int) := by rw [← hl, Int.natCast_mul]
 have p2 : ((i : Int) + 1) * (C : Int) = ((l + C : Nat) : Int) := by rw [Int.add_mul, p1, Int.one_mul, Int.natCast_add]
 rw [hl] at hi ⊢
 have BA := Lib.hid ((Below.refl w.heap.size w).alloc (Nat.le_refl _) (.cells #[.int .i64 r, .int .i64 (C : Int), .slice a L.length cap] 25))
 by_cases hC0 : C = 0
 ·subst hC0
  rw [Nat.mul_zero] at hl
  subst hl
  have HRs := Lib.hid (fun (W : World) (a : Option Addr) => rats_none (w := W) (a := a) (c := cap) (l := 0) (L := L) (by unfold maxLen; omega))
  by_cases hcl : cap = 0
  ·subst hcl
   go_enter Tryz.func130, Tryz.ntmps130
   go_wp2
   go_ret
   exact ⟨.slice _ 0 _, rfl, HRs.out _ _, BA.out⟩
  ·go_enter Tryz.func130, Tryz.ntmps130
   go_wp2
   go_ret
   exact ⟨.slice _ 0 _, rfl, HRs.out _ _, BA.out⟩
 ·have hcl : ¬ cap = l := by omega
  have HRs := Lib.hid (fun W (hW : Below w.heap.size w W) => rats_part (H.out.below hW) hi hcl)
  clear hl
  go_enter Tryz.func130, Tryz.ntmps130
  go_wp2
  go_ret
  have hv := HRs.out _ BA.out
  have e9 : l + C - l = C := by omega
  first
   | exact ⟨_, rfl, hv, BA.out⟩
   | (rw [e9]; exact ⟨_, rfl, hv, BA.out⟩)
end Go.Proofs.YtlepgkkpopjgoaaGreat
namespace Go.Proofs.YtlepgkkpopjgoaaGreat
set_option maxRecDepth 100000
set_option linter.unusedVariables false
set_option linter.unusedSimpArgs false
open Go.RowKit Go.WideShapes Go.ChangeShapes
set_option linter.unusedVariables false
set_option linter.unusedSimpArgs false
theorem matB_parts {ok : Bool → List Int → List Int → Bool} {r c : Int} {L : List Fr} (h : matB ok r c L = true) :
  ∃ R C : Nat, r = R ∧ c = C ∧ R ≤ 24 ∧ C ≤ 24 ∧ L.length = R * C ∧ R * C ≤ 576 ∧ ∀ k (hk : k < L.length), ok (L[k]'hk).neg (L[k]'hk).mag (L[k]'hk).den = true := by
 unfold matB at h
 simp only [Bool.and_eq_true, decide_eq_true_eq, List.all_eq_true] at h
 obtain ⟨h1, h2, h3, h4⟩ := h
 have hd := dim_mul h1 h2
 obtain ⟨a1, a2⟩ := dimB_iff.1 h1
 obtain ⟨b1, b2⟩ := dimB_iff.1 h2
 obtain ⟨R, rfl⟩ : ∃ a : Nat, r = a := ⟨r.toNat, by omega⟩
 obtain ⟨C, rfl⟩ : ∃ a : Nat, c = a := ⟨c.toNat, by omega⟩
 rw [← Int.natCast_mul] at h3 hd
 exact ⟨R, C, rfl, rfl, by omega, by omega, by omega, by omega, fun k hk => h4 _ (List.getElem_mem hk)⟩
theorem row_in {R C i : Nat} (hi : i < R) : i * C + C ≤ R * C := by
 have := Nat.mul_le_mul_right C (show i + 1 ≤ R from hi)
 rw [Nat.add_mul, Nat.one_mul] at this
 exact this
end Go.Proofs.YtlepgkkpopjgoaaGreat
namespace Go.Proofs.YtlepgkkpopjgoaaGreat
set_option maxRecDepth 100000
set_option linter.unusedVariables false
set_option linter.unusedSimpArgs false
open Go.RowKit Go.WideShapes Go.ChangeShapes
set_option linter.unusedVariables false
set_option linter.unusedSimpArgs false
def elM (L : List Fr) (C i k : Nat) : Fr := L[i * C + k]?.getD Fr.zero
theorem el_at {L : List Fr} {C i k : Nat} (h : i * C + k < L.length) : elM L C i k = L[i * C + k]'h := by unfold elM; rw [List.getElem?_eq_getElem h, Option.getD_some]
theorem B3.far {w : World} {p q j : Nat} {t : TypeId} {x y z : Value} (h : B3 w p t x y z) (hne : p ≠ q) (u : Value) : B3 (w.setCell ⟨q, j, none⟩ u) p t x y z := h.keptK (kept_set w q j u) hne
theorem B3.grown {w w' : World} {p B : Nat} {t : TypeId} {x y z v : Value} {L : List Fr} {xs : List (Value × Value)} (h : B3 w p t x y z) (hv : OwnV w B v L xs) (h1 : t ≠ 34) (h2 : t ≠ 3) (hg : w.grownBy w' v.ownBlock) : B3 w' p t x y z :=
 h.keptK (Kept.of_grown hg) (fun e => hv.not_b3 h h1 h2 (.inl e))
end Go.Proofs.YtlepgkkpopjgoaaGreat
namespace Go.Proofs.YtlepgkkpopjgoaaGreat
set_option maxRecDepth 100000
set_option linter.unusedVariables false
set_option linter.unusedSimpArgs false
open Go.RowKit Go.WideShapes Go.ChangeShapes
set_option linter.unusedVariables false
set_option linter.unusedSimpArgs false
theorem flat_app : ∀ (L : List Fr) (xs : List (Value × Value)) (M : List Fr) (ys : List (Value × Value)), xs.length = L.length → flat (L ++ M) (xs ++ ys) = flat L xs ++ flat M ys
 | [], [], _, _, _ => rfl
 | x :: L, q :: xs, M, ys, h => by simp only [List.cons_append, flat, flat_app L xs M ys (by simpa using h)]
theorem flat_one : ∀ (L : List Fr) (xs : List (Value × Value)), (∀ p ∈ xs, p.1.oneCell' = true ∧ p.2.oneCell' = true) → ∀ u ∈ flat L xs, u.oneCell' = true
 | x :: L, q :: xs, h, u, hu => by
  simp only [flat, List.mem_cons] at hu
  rcases hu with rfl | rfl | rfl | hu
  ·rfl
  ·exact (h q (List.mem_cons_self ..)).1
  ·exact (h q (List.mem_cons_self ..)).2
  ·exact flat_one L xs (fun p hp => h p (List.mem_cons_of_mem _ hp)) u hu
 | [], _, _, u, hu => by simp [flat] at hu
 | _ :: _, [], _, u, hu => by simp [flat] at hu
theorem OwnV.one {w : World} {B : Nat} {v : Value} {L : List Fr} {xs : List (Value × Value)} (h : OwnV w B v L xs) : ∀ u ∈ flat L xs, u.oneCell' = true :=
 flat_one L xs (fun p hp => by
  obtain ⟨i, hi, rfl⟩ := List.getElem_of_mem hp
  obtain ⟨a, c, e, f, h1, h2⟩ := (h.each i (by have := h.len; omega) hi).slices
  rw [h1, h2]; exact ⟨rfl, rfl⟩)
theorem OwnV.append {w w' : World} {B : Nat} {v v' u : Value} {L M : List Fr} {xs ys : List (Value × Value)} (h : OwnV w B v L xs) (h2 : OwnV w B u M ys)
  (hne : ∀ i (hi : i < xs.length) j (hj : j < ys.length) g g', ((xs[i]'hi).1.ownBlock = some g ∨ (xs[i]'hi).2.ownBlock = some g) → ((ys[j]'hj).1.ownBlock = some g' ∨ (ys[j]'hj).2.ownBlock = some g') → g ≠ g')
  (hnr : ∀ j (hj : j < ys.length) g, ((ys[j]'hj).1.ownBlock = some g ∨ (ys[j]'hj).2.ownBlock = some g) → v.ownBlock ≠ some g)
  (hg : w.grownBy w' v.ownBlock) (hr : w'.ownsRow B 34 3 v' (L.length + M.length) (flat L xs ++ flat M ys)) : OwnV w' B v' (L ++ M) (xs ++ ys) := by
 have hl := h.len
 have hl2 := h2.len
 refine ⟨by simp [hl, hl2], ?_, ?_, ?_⟩
 ·rw [flat_app L xs M ys hl, List.length_append]; exact hr
 ·intro i hi hi'
  by_cases hlt : i < L.length
  ·have hlt' : i < xs.length := by omega
   simp only [List.getElem_append_left hlt, List.getElem_append_left hlt']
   exact (h.each i hlt hlt').kept (Kept.of_grown hg) (fun g e => h.ne_row i hlt' g e)
  ·have h3 : i - L.length < M.length := by simp at hi; omega
   have h4 : i - xs.length < ys.length := by omega
   have e2 : (xs ++ ys)[i]'hi' = ys[i - xs.length]'h4 := List.getElem_append_right (by omega)
   have e3 : (L ++ M)[i]'hi = M[i - L.length]'h3 := List.getElem_append_right (by omega)
   rw [e2, e3]
   have := (h2.each (i - L.length) h3 (by omega)).kept (Kept.of_grown hg) (fun g e => hnr _ _ g e)
   simpa only [hl] using this
 ·intro i j hi hj hij g g' e1 e2
  simp only [List.length_append] at hi hj
  by_cases h1 : i < xs.length
  ·simp only [List.getElem_append_left h1] at e1
   by_cases h2' : j < xs.length
   ·simp only [List.getElem_append_left h2'] at e2
    exact h.apart i j h1 h2' hij g g' e1 e2
   ·rw [List.getElem_append_right (by omega)] at e2
    exact hne i h1 _ (by omega) g g' e1 e2
  ·rw [List.getElem_append_right (by omega)] at e1
   by_cases h2' : j < xs.length
   ·simp only [List.getElem_append_left h2'] at e2
    exact (hne j h2' _ (by omega) g' g e2 e1).symm
   ·rw [List.getElem_append_right (by omega)] at e2
    exact h2.apart _ _ (by omega) (by omega) (by omega) g g' e1 e2
set_option maxRecDepth 100000 in
theorem step_append_rats {ops : Array Oper} {o : Oper} {a : Act} {K : Act → World → Prop} {Q : Exit → Act → World → Prop} {E : Prop} {w : World} (hgd : o.guard = none) (s x : Operand)
  (ho : o.op = .call { callee := .builtin .append, args := #[s, x], argTypes := #[23, 23] })
  (B : Nat) (v : Value) (L : List Fr) (xs : List (Value × Value)) (hs : a.eval s = v) (hown : OwnV w B v L xs) (hL : L.length ≤ 100000) (hB : B ≤ w.heap.size)
  (g m c : Nat) (hx : a.eval x = .slice (some ⟨g, 0, none⟩) m c) (M : List Fr) (ys : List (Value × Value)) (h2 : OwnV w B (.slice (some ⟨g, 0, none⟩) m c) M ys) (hm : 0 < m) (hm2 : m ≤ 1000)
  (hne : ∀ i (hi : i < xs.length) j (hj : j < ys.length) r r', ((xs[i]'hi).1.ownBlock = some r ∨ (xs[i]'hi).2.ownBlock = some r) → ((ys[j]'hj).1.ownBlock = some r' ∨ (ys[j]'hj).2.ownBlock = some r') → r ≠ r')
  (hnr : ∀ j (hj : j < ys.length) r, ((ys[j]'hj).1.ownBlock = some r ∨ (ys[j]'hj).2.ownBlock = some r) → v.ownBlock ≠ some r)
  (h : ∀ v' w', OwnV w' B v' (L ++ M) (xs ++ ys) → w.grownBy w' v.ownBlock → (∀ k, v'.ownBlock = some k → v.ownBlock = some k ∨ w.heap.size ≤ k) → K (a.put o.dst v') w') :
  if Region.wanted o (yielded ops a.tmps) = true then Oper.wp Tryz.prog o a w K Q else E := by
 obtain ⟨i0, hi, hz0, hz1, hz2⟩ := info_parts info_rat
 have hc := h2.count
 refine Go.step_append_lies w hgd s x 23 ho B 34 i0 _ 3 56 Tryz.underlying23 hi hz0 hz1 hz2 rfl (by decide) v L.length (flat L xs) hs hown.row ⟨g, 0, none⟩ m c
  (flat M ys) hx (by rw [flat_len M ys h2.len, hc]) (fun j u hj => by
   have hlt := (List.getElem?_eq_some_iff.1 hj).1
   rw [flat_len M ys h2.len] at hlt
   have hrow := h2.row
   rw [hc] at hrow
   have := hrow.cellAt j (by omega)
   rw [show (⟨g, 0, none⟩ : Addr).add j = ⟨g, j, none⟩ by simp [Addr.add]; omega]
   exact this.trans hj) h2.one hm (by unfold maxLen; omega) (by omega) hB w.heap.size rfl ?_
 intro g' cap w' hr hg hgg _
 exact h _ w' (hown.append h2 hne hnr hg (by rw [hc]; exact hr)) hg (fun k hk => by
  have e : g' = k := by simpa [Value.ownBlock] using hk
  subst e
  rcases hgg with e | e
  ·exact .inl e
  ·exact .inr (by omega))
end Go.Proofs.YtlepgkkpopjgoaaGreat
namespace Go.Proofs.YtlepgkkpopjgoaaGreat
open Go.RowKit Go.WideShapes Go.ChangeShapes
set_option linter.unusedVariables false
set_option linter.unusedSimpArgs false
def idL (o : Fr) (n : Nat) : Nat → List Fr
 | 0 => List.replicate (n * n) zF
 | i + 1 => (idL o n i).set (i * n + i) o
theorem idL_len (o : Fr) (n i : Nat) : (idL o n i).length = n * n := by
 induction i with
 | zero => simp [idL]
 | succ i ih => unfold idL; rw [List.length_set, ih]
theorem own_at {w : World} {B : Nat} {v : Value} {L : List Fr} {xs : List (Value × Value)} (h : OwnV w B v L xs) (h0 : 0 < L.length) : ∃ g c, v = .slice (some ⟨g, 0, none⟩) L.length c ∧ B ≤ g ∧ g < w.heap.size := by
 rcases h.row.2 with ⟨hv, hn⟩ | ⟨g, cap, cur, hv, hr⟩
 ·omega
 ·exact ⟨g, cap, hv, h.lt g (.inl (by rw [hv]; rfl))⟩
set_option maxRecDepth 100000 in
set_option maxHeartbeats 1000000 in
theorem spec_matZero (HZ : ∀ w, Calls Tryz.prog 81 #[] w fun r w' => ∃ x y, r = .returned (.agg #[.bool zF.neg, x, y]) ∧ OwnR w' w.heap.size x zF.mag y zF.den ∧ Below w.heap.size w w')
  (R C : Nat) (w : World) (hR : R ≤ 24) (hC : C ≤ 24) :
  Calls Tryz.prog 159 #[.int .i64 (R : Int), .int .i64 (C : Int)] w fun e w' => ∃ u xs, e = .returned (.agg #[.int .i64 (R : Int), .int .i64 (C : Int), u]) ∧ OwnV w' w.heap.size u (List.replicate (R * C) zF) xs ∧ Below w.heap.size w w' := by
 have hm := Nat.mul_le_mul hR hC
 obtain ⟨m, hmm⟩ : ∃ m, m = R * C := ⟨_, rfl⟩
 rw [← hmm] at hm ⊢
 have p1 : (R : Int) * (C : Int) = (m : Int) := by rw [hmm, Int.natCast_mul]
 clear hmm
 have T := fun W => spec_zeros HZ m (by omega) W
 go_enter Tryz.func159, Tryz.ntmps159
 go_wp2_with fail
 obtain ⟨W0, hW0⟩ : ∃ x, x = w.alloc (.cells #[.int .i64 0, .int .i64 0, .slice none 0 0] 25) := ⟨_, rfl⟩
 have Z := Lib.hid (show B3 W0 w.heap.size 25 (.int .i64 0) (.int .i64 0) (.slice none 0 0) by rw [hW0]; exact B3.new _ _ _ _ _)
 have B0 := Lib.hid (show Below w.heap.size w W0 by rw [hW0]; exact (Below.refl _ _).alloc (Nat.le_refl _) _)
 rw [← hW0]
 clear hW0
 refine (T _).mono ?_
 rintro e w1 ⟨u, xs, rfl, o1, b1⟩
 obtain ⟨a1, c1, rfl⟩ := o1.slice
 rw [List.length_replicate] at o1 ⊢
 replace Z := Lib.hid (Z.out.below b1)
 have O1 := Lib.hid (o1.base B0.out.size)
 replace B0 := Lib.hid (B0.out.trans (b1.mono B0.out.size))
 clear b1 T o1
 have z0 := Z.out.c0
 have z1 := Z.out.c1
 have z2 := Z.out.c2
 have x0 := Z.out.f 0
 have x1 := Z.out.f 1
 have x2 := Z.out.f 2
 have V9 := Lib.hid (OwnV.set3_b3 O1.out Z.out (by decide) (by decide) (.int .i64 (R : Int)) (.int .i64 (C : Int)) (.slice a1 m c1))
 have B9 := Lib.hid (((B0.out.setCell (p := ⟨w.heap.size, 0, none⟩) (by simp) (.int .i64 (R : Int))).setCell (p := ⟨w.heap.size, 1, none⟩) (by simp) (.int .i64 (C : Int))).setCell (p := ⟨w.heap.size, 2, none⟩) (by simp) (.slice a1 m c1))
 have D8 := Z.out.set3 (.int .i64 (R : Int)) (.int .i64 (C : Int)) (.slice a1 m c1)
 have hc0 := D8.c0; have hc1 := D8.c1; have hc2 := D8.c2
 clear D8
 go_wp2_with fail
 exact bodyPost_ret (v := .agg #[(.int .i64 (R : Int)), (.int .i64 (C : Int)), (.slice a1 m c1)]) (by simp [results, Tryz.results159, go_sem, hc0, hc1, hc2]) rfl ⟨_, _, rfl, V9.out, B9.out⟩
set_option maxRecDepth 100000 in
set_option maxHeartbeats 2000000 in
theorem spec_identity (HZ : ∀ w, Calls Tryz.prog 81 #[] w fun r w' => ∃ x y, r = .returned (.agg #[.bool zF.neg, x, y]) ∧ OwnR w' w.heap.size x zF.mag y zF.den ∧ Below w.heap.size w w')
  (o : Fr) (HONE : ∀ w, Calls Tryz.prog 82 #[.int .i64 1] w fun e w' => ∃ x y, e = .returned (.agg #[.bool o.neg, x, y]) ∧ OwnR w' w.heap.size x o.mag y o.den ∧ Below w.heap.size w w')
  (n : Nat) (w : World) (hn : n ≤ 24) :
  Calls Tryz.prog 129 #[.int .i64 (n : Int)] w fun e w' => ∃ u xs, e = .returned (.agg #[.int .i64 (n : Int), .int .i64 (n : Int), u]) ∧ OwnV w' w.heap.size u (idL o n n) xs ∧ Below w.heap.size w w' := by
 have T := Lib.hid (fun W => spec_matZero HZ n n W hn hn)
 have hm := Nat.mul_le_mul hn hn
 obtain ⟨m, hmm⟩ : ∃ m, m = n * n := ⟨_, rfl⟩
 rw [← hmm] at hm T
 have HM := Lib.hid hmm
 clear hmm
 go_enter Tryz.func129, Tryz.ntmps129
 go_wp2_with fail
 obtain ⟨W0, hW0⟩ : ∃ x, x = w.alloc (.cells #[.int .i64 0, .int .i64 0, .slice none 0 0] 25) := ⟨_, rfl⟩
 have Z := Lib.hid (show B3 W0 w.heap.size 25 (.int .i64 0) (.int .i64 0) (.slice none 0 0) by rw [hW0]; exact B3.new _ _ _ _ _)
 have B0 := Lib.hid (show Below w.heap.size w W0 by rw [hW0]; exact (Below.refl _ _).alloc (Nat.le_refl _) _)
 rw [← hW0]
 clear hW0
 refine (T.out _).mono ?_
 rintro e w1 ⟨v, xs, rfl, o1, b1⟩
 replace Z := Lib.hid (Z.out.below b1)
 have O1 := Lib.hid (o1.base B0.out.size)
 replace B0 := Lib.hid (B0.out.trans (b1.mono B0.out.size))
 obtain ⟨a1, c1, rfl⟩ := o1.slice
 rw [List.length_replicate] at O1 ⊢
 clear b1 T o1
 go_wp2_with fail
 obtain ⟨pO, hpO⟩ : ∃ x, x = w1.heap.size := ⟨_, rfl⟩
 obtain ⟨W3, hW3⟩ : ∃ x, x = w1.alloc (.cells #[.int .i64 (n : Int), .int .i64 (n : Int), .slice a1 m c1] 25) := ⟨_, rfl⟩
 have Y0 := Lib.hid (show B3 W3 w.heap.size 25 (.int .i64 0) (.int .i64 0) (.slice none 0 0) by rw [hW3]; exact Z.out.alloc _)
 have O0 := Lib.hid (show B3 W3 pO 25 (.int .i64 (n : Int)) (.int .i64 (n : Int)) (.slice a1 m c1) by rw [hW3, hpO]; exact B3.new _ _ _ _ _)
 have V0 := Lib.hid (show OwnV W3 w.heap.size (.slice a1 m c1) (idL o n 0) xs by rw [hW3, show idL o n 0 = List.replicate m zF by rw [HM.out]; rfl]; exact O1.out.alloc _)
 have B3_ := Lib.hid (show Below w.heap.size w W3 by rw [hW3]; exact B0.out.alloc B0.out.size _)
 have PO := Lib.hid (show w.heap.size < pO by rw [hpO]; exact Z.out.lt)
 rw [← hW3, ← hpO]
 clear hW3 hpO Z B0 O1
 go_loopw [4] (fun iv wr => ∃ (i : Nat) (xs : List (Value × Value)), i ≤ n ∧ iv = .int .i64 i ∧ Hid (B3 wr w.heap.size 25 (.int .i64 0) (.int .i64 0) (.slice none 0 0)) ∧ Hid (B3 wr pO 25 (.int .i64 (n : Int)) (.int .i64 (n : Int)) (.slice a1 m c1)) ∧ Hid (OwnV wr w.heap.size (.slice a1 m c1) (idL o n i) xs) ∧ Hid (Below w.heap.size w wr)) (fun iv _ => n - (intOf iv).toNat)
 case atStart => exact ⟨0, xs, Nat.zero_le _, rfl, Y0, O0, V0, B3_⟩
 case round =>
  clear Y0 O0 V0 B3_
  obtain ⟨i, xs, hi, rfl, Y, O, V, B⟩ := hrel
  by_cases hlt : i < n
  ·have hin : i * n + i < m := by have := row_in (C := n) hlt; rw [HM.out]; omega
   obtain ⟨g, c, hv, hg1, hg2⟩ := own_at V.out (by rw [idL_len, ← HM.out]; omega)
   injection hv with e1 e2 e3
   subst e1
   clear e2 e3
   have HL := Lib.hid (show (idL o n i).length = m by rw [idL_len, ← HM.out])
   have HS := Lib.hid (show idL o n (i + 1) = (idL o n i).set (i * n + i) o from rfl)
   obtain ⟨l, hl⟩ : ∃ l, l = i * n := ⟨_, rfl⟩
   have p1 : (i : Int) * (n : Int) = (l : Int) := by rw [hl, Int.natCast_mul]
   rw [← hl] at hin HS
   clear hl
   obtain ⟨j, hj⟩ : ∃ j, j = l + i := ⟨_, rfl⟩
   have p2 : (l : Int) + (i : Int) = (j : Int) := by omega
   rw [← hj] at hin HS
   clear hj
   have p3 : (0 : Int) ≤ (j : Int) := by omega
   have p4 : (j : Int) < (m : Int) := by omega
   have p5 : IntKind.i64.wrap (l : Int) = (l : Int) := IntWalk.i64_in _ (by omega)
   have p6 : IntKind.i64.wrap (j : Int) = (j : Int) := IntWalk.i64_in _ (by omega)
   have y2 := O.out.c2
   have HX := Lib.hid (show xs.length = m by have := V.out.len; have := HL.out; omega)
   have HOO := Lib.hid (fun W (hW : Below wr.heap.size wr W) => O.out.below hW)
   have BS := Lib.hid B.out.size
   have G1 := Lib.hid hg1
   have GO := Lib.hid (show g ≠ pO from fun e => V.out.not_b3 O.out (by decide) (by decide) (.inl (by rw [← e]; rfl)))
   have GY := Lib.hid (show g ≠ w.heap.size from fun e => V.out.not_b3 Y.out (by decide) (by decide) (.inl (by rw [← e]; rfl)))
   clear hg1 hg2
   have L9 := Lib.hid V.out.lt
   have HAT := Lib.hid (fun W (hW : Below wr.heap.size wr W) => (HONE W).mono (R' := fun e w' => ∃ x y, e = .returned (.agg #[.bool o.neg, x, y]) ∧ OwnR w' wr.heap.size x o.mag y o.den ∧ Below wr.heap.size wr w') (fun e w' ⟨x, y, he, hr, hb⟩ => ⟨x, y, he, hr.base hW.size, hW.trans (hb.mono hW.size)⟩))
   go_wp2_with fail
   go_region_law (first
    | (go_simp; go_at_call 82; refine (HAT.out _ (by first | with_reducible exact Below.refl _ _ | with_reducible exact (Below.refl _ _).drew | fail)).mono ?_; rintro e w_c ⟨x_c, y_c, rfl, o_c, bb_c⟩; obtain ⟨a_c, c_c, e_c, f_c, rfl, rfl⟩ := o_c.slices; have OK := V.out.below bb_c; obtain ⟨k0, k1, k2⟩ := OK.cells j (by have := HL.out; omega) (by have := HX.out; omega); have r0 := OK.frozen (j * 3); have r1 := OK.frozen (j * 3 + 1); have r2 := OK.frozen (j * 3 + 2); have O_c := Lib.hid o_c; have Y9 := HOO.out _ bb_c; have s2 := Y9.c2)
    | fail)
   all_goals go_wp2_with fail
   all_goals exact ⟨⟨i + 1, _, by omega, by go_num, Lib.hid ((((Y.out.below bb_c).far (Ne.symm GY.out) _).far (Ne.symm GY.out) _).far (Ne.symm GY.out) _), Lib.hid (((Y9.far (Ne.symm GO.out) _).far (Ne.symm GO.out) _).far (Ne.symm GO.out) _), Lib.hid (by rw [HS.out]; exact OK.set3 j o _ _ (by have := HL.out; omega) (OwnR.base O_c.out BS.out) (fun q hq _ a a' h1 h2 => by have h3 := (L9.out a (.inr ⟨_, List.getElem_mem hq, h1⟩)).2; have h4 := (O_c.out.lt a' h2).1; omega) (fun a h2 => by have h3 := (L9.out g (.inl rfl)).2; have h4 := (O_c.out.lt a h2).1; omega)), Lib.hid ((((B.out.trans (bb_c.mono BS.out)).setCell (p := ⟨g, j * 3, none⟩) G1.out _).setCell (p := ⟨g, j * 3 + 1, none⟩) G1.out _).setCell (p := ⟨g, j * 3 + 2, none⟩) G1.out _)⟩, by simp [intOf]; omega⟩
  ·obtain rfl : i = n := by omega
   have y0 := O.out.c0
   have y1 := O.out.c1
   have y2 := O.out.c2
   replace Z := Y
   replace B0 := B
   have z0 := Z.out.c0
   have z1 := Z.out.c1
   have z2 := Z.out.c2
   have x0 := Z.out.f 0
   have x1 := Z.out.f 1
   have x2 := Z.out.f 2
   have V9 := Lib.hid (OwnV.set3_b3 V.out Z.out (by decide) (by decide) (.int .i64 (i : Int)) (.int .i64 (i : Int)) (.slice a1 m c1))
   have B9 := Lib.hid (((B0.out.setCell (p := ⟨w.heap.size, 0, none⟩) (by simp) (.int .i64 (i : Int))).setCell (p := ⟨w.heap.size, 1, none⟩) (by simp) (.int .i64 (i : Int))).setCell (p := ⟨w.heap.size, 2, none⟩) (by simp) (.slice a1 m c1))
   have D8 := Z.out.set3 (.int .i64 (i : Int)) (.int .i64 (i : Int)) (.slice a1 m c1)
   have hc0 := D8.c0; have hc1 := D8.c1; have hc2 := D8.c2
   clear D8
   go_wp2_with fail
   exact bodyPost_ret (v := .agg #[(.int .i64 (i : Int)), (.int .i64 (i : Int)), (.slice a1 m c1)]) (by simp [results, Tryz.results129, go_sem, hc0, hc1, hc2]) rfl ⟨_, _, rfl, V9.out, B9.out⟩
def idM (o : Fr) (n : Int) : List Fr := if dimB n then idL o n.toNat n.toNat else []
def idN (n : Int) : Int := if dimB n then n else 0
end Go.Proofs.YtlepgkkpopjgoaaGreat
