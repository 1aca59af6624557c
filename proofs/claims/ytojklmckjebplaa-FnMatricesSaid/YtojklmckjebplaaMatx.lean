/- Matx: Mat MatOk MatRow MatAt MatGet MatTr MatCat. -/
import Derived.Test.YtojklmckjebplaaVecx
import Derived.Deep.RegionLaw
/-! Mat -/
namespace Go.Proofs.Ytojklmckjebplaa
set_option maxRecDepth 100000
set_option linter.unusedVariables false
set_option linter.unusedSimpArgs false
open Go.RowKit Go.WideShapes Go.ChangeShapes Go.Deep
set_option linter.unusedVariables false
set_option linter.unusedSimpArgs false

/-- a block of three cells -/
def B3 (w : World) (p : Nat) (t : TypeId) (x y z : Value) : Prop := w.heap[p]? = some (.cells #[x, y, z] t (0, 0))
section
variable {w w' : World} {p : Nat} {t : TypeId} {x y z : Value}
theorem B3.lt (h : B3 w p t x y z) : p < w.heap.size := (Array.getElem?_eq_some_iff.1 h).1
theorem B3.new (w : World) (t : TypeId) (x y z : Value) : B3 (w.alloc (.cells #[x, y, z] t)) w.heap.size t x y z := World.alloc_heap_new w _
theorem B3.below (h : B3 w p t x y z) (hb : Below w.heap.size w w') : B3 w' p t x y z := (hb.block p h.lt).trans h
theorem B3.keptK {S : Nat → Prop} (h : B3 w p t x y z) (hk : Kept S w w') (hn : ¬ S p) : B3 w' p t x y z := (hk.block p h.lt hn).trans h
theorem B3.alloc (h : B3 w p t x y z) (o : Obj) : B3 (w.alloc o) p t x y z := h.keptK (S := fun _ => False) ((Kept.refl _ w).trans (Kept.of_below ((Below.refl _ _).alloc (Nat.le_refl _) _))) (fun h => h)
theorem B3.drew (h : B3 w p t x y z) : B3 w.drew p t x y z := h
theorem B3.c0 (h : B3 w p t x y z) : w.cell? ⟨p, 0, none⟩ = some x := by simp [World.cell?, show w.heap[p]? = _ from h]
theorem B3.c1 (h : B3 w p t x y z) : w.cell? ⟨p, 1, none⟩ = some y := by simp [World.cell?, show w.heap[p]? = _ from h]
theorem B3.c2 (h : B3 w p t x y z) : w.cell? ⟨p, 2, none⟩ = some z := by simp [World.cell?, show w.heap[p]? = _ from h]
theorem B3.f (h : B3 w p t x y z) (j : Nat) : w.frozen? ⟨p, j, none⟩ = false := by simp [World.frozen?, show w.heap[p]? = _ from h]
theorem B3.set (h : B3 w p t x y z) (j : Nat) (u : Value) : (w.setCell ⟨p, j, none⟩ u).heap[p]? = some (.cells ((#[x, y, z] : Array Value).setIfInBounds j u) t (0, 0)) := by
  simp [World.setCell, Array.getElem?_modify, show w.heap[p]? = _ from h]
theorem B3.set0 (h : B3 w p t x y z) (u : Value) : B3 (w.setCell ⟨p, 0, none⟩ u) p t u y z := h.set 0 _
theorem B3.set1 (h : B3 w p t x y z) (u : Value) : B3 (w.setCell ⟨p, 1, none⟩ u) p t x u z := h.set 1 _
theorem B3.set2 (h : B3 w p t x y z) (u : Value) : B3 (w.setCell ⟨p, 2, none⟩ u) p t x y u := h.set 2 _
theorem B3.set3 (h : B3 w p t x y z) (a b c : Value) : B3 (((w.setCell ⟨p, 0, none⟩ a).setCell ⟨p, 1, none⟩ b).setCell ⟨p, 2, none⟩ c) p t a b c := ((h.set0 a).set1 b).set2 c
theorem B3.rx {b : Bool} (h : B3 w p t (.bool b) y z) : Rx w p t b y z := h
theorem Rx.b3 {b : Bool} (h : Rx w p t b y z) : B3 w p t (.bool b) y z := h
end
theorem b3_at {w : World} {p q : Nat} {t : TypeId} {x y z : Value} (h : B3 w p t x y z) (e : q = p) : B3 w q t x y z := by rw [e]; exact h
theorem kept_grown2 {w w' : World} {v d : Value} (h : Grown2 w w' v d) : Kept (fun k => v.ownBlock = some k ∨ d.ownBlock = some k) w w' := by
  obtain ⟨w1, g1, g2⟩ := h
  exact ((Kept.of_grown g1).mono (fun k e => .inl e)).trans ((Kept.of_grown g2).mono (fun k e => .inr e))
/-- a block of another type is none of a vector's -/
theorem OwnV.not_b3 {w : World} {B p : Nat} {v : Value} {L : List Fr} {xs : List (Value × Value)} {t : TypeId} {x y z : Value} (h : OwnV w B v L xs) (D : B3 w p t x y z) (h1 : t ≠ 42) (h2 : t ≠ 3) : ¬ OnV v xs p := by
  have D' : w.heap[p]? = some (.cells #[x, y, z] t (0, 0)) := D
  have key : ∀ (u : Value) (l : List Int), OwnI w B u l → u.ownBlock ≠ some p := by
    intro u l ho e
    rcases ho.2 with ⟨rfl, _⟩ | ⟨g1, cap1, cur1, rfl, _, hg1, _⟩
    · simp [Value.ownBlock] at e
    · have e1 : g1 = p := by simpa [Value.ownBlock] using e
      subst e1
      rw [hg1] at D'
      injection D' with D'
      injection D' with _ h3 _
      exact h2 h3.symm
  rintro (e | ⟨q, hq, e⟩)
  · rcases h.row.2 with ⟨rfl, _⟩ | ⟨g1, cap1, cur1, rfl, _, hg1, _⟩
    · simp [Value.ownBlock] at e
    · have e1 : g1 = p := by simpa [Value.ownBlock] using e
      subst e1
      rw [hg1] at D'
      injection D' with D'
      injection D' with _ h3 _
      exact h1 h3.symm
  · obtain ⟨i, hi, rfl⟩ := List.getElem_of_mem hq
    have hr := h.each i (by have := h.len; omega) hi
    rcases e with e | e
    · exact key _ _ hr.1 e
    · exact key _ _ hr.2.1 e
theorem OwnV.set_b3 {w : World} {B p : Nat} {v : Value} {L : List Fr} {xs : List (Value × Value)} {t : TypeId} {x y z : Value} (h : OwnV w B v L xs) (D : B3 w p t x y z) (h1 : t ≠ 42) (h2 : t ≠ 3) (j : Nat) (u : Value) : OwnV (w.setCell ⟨p, j, none⟩ u) B v L xs :=
  h.kept (kept_set w p j u) (fun k hk e => h.not_b3 D h1 h2 (by rw [← e]; exact hk))
theorem OwnV.set3_b3 {w : World} {B p : Nat} {v : Value} {L : List Fr} {xs : List (Value × Value)} {t : TypeId} {x y z : Value} (h : OwnV w B v L xs) (D : B3 w p t x y z) (h1 : t ≠ 42) (h2 : t ≠ 3) (a b c : Value) :
    OwnV (((w.setCell ⟨p, 0, none⟩ a).setCell ⟨p, 1, none⟩ b).setCell ⟨p, 2, none⟩ c) B v L xs :=
  ((h.set_b3 D h1 h2 0 a).set_b3 (D.set0 a) h1 h2 1 b).set_b3 ((D.set0 a).set1 b) h1 h2 2 c
theorem ratsAt_form {w : World} {v : Value} {L : List Fr} (h : RatsAt w v L) : ∃ a c, v = .slice a L.length c ∧ L.length ≤ c ∧ c ≤ 2 ^ 63 - 1 := by
  obtain ⟨a, c, rfl, h1, h2, _⟩ := h
  exact ⟨a, c, rfl, h1, by unfold maxLen at h2; omega⟩

/-! the exact laws' helpers -/
theorem sz_mat_yes (r c : Int) (v : Value) (L : List Fr) (left : Int) (w : World) (h : RatsAt w v L) (h0 : 0 ≤ left ∧ left ≤ 1048576) (h1 : (L.length : Int) + szL L ≤ left) :
    Calls Try.prog 23 #[.agg #[.int .i64 r, .int .i64 c, v], .int .i64 left] w fun e w' => e = .returned (.int .i64 (left - L.length - szL L)) ∧ Below w.heap.size w w' := by
  have HA := Lib.hid h
  obtain ⟨a, k, rfl, _, _⟩ := ratsAt_form h
  have T := fun o => sz_ratv_yes _ L left (w.alloc o) (h.below ((Below.refl _ _).alloc (Nat.le_refl _) o)) h0 h1
  obtain ⟨X, hX⟩ : ∃ X, X = left - (L.length : Int) - szL L := ⟨_, rfl⟩
  rw [← hX] at T ⊢
  have hx : ¬ X < 0 := by omega
  obtain ⟨n, hn⟩ : ∃ n, L.length = n := ⟨_, rfl⟩
  rw [hn] at T ⊢
  have HT := Lib.hid T
  clear hX T h0 h1 hn h
  go_enter Try.func23, Try.ntmps23
  go_wp2_with fail
  refine (HT.out _).mono ?_
  rintro e w1 ⟨rfl, b1⟩
  have B1 := Lib.hid (((Below.refl w.heap.size w).alloc (Nat.le_refl _) (.cells #[.int .i64 r, .int .i64 c, .slice a n k] 47)).trans (b1.mono (by simp)))
  clear b1
  go_wp2
  go_ret
  exact ⟨rfl, B1.out⟩
theorem sz_mat_no (r c : Int) (v : Value) (L : List Fr) (left : Int) (w : World) (h : RatsAt w v L) (h0 : 0 ≤ left ∧ left ≤ 1048576) (h1 : ¬ (L.length : Int) + szL L ≤ left) :
    Calls Try.prog 23 #[.agg #[.int .i64 r, .int .i64 c, v], .int .i64 left] w fun e w' => e = .returned (.int .i64 (-1)) ∧ Below w.heap.size w w' := by
  obtain ⟨a, k, rfl, _, _⟩ := ratsAt_form h
  have T := fun o => sz_ratv_no _ L left (w.alloc o) (h.below ((Below.refl _ _).alloc (Nat.le_refl _) o)) h0 h1
  obtain ⟨n, hn⟩ : ∃ n, L.length = n := ⟨_, rfl⟩
  rw [hn] at T ⊢
  have HT := Lib.hid T
  clear T h0 h1 hn h
  go_enter Try.func23, Try.ntmps23
  go_wp2_with fail
  refine (HT.out _).mono ?_
  rintro e w1 ⟨rfl, b1⟩
  have B1 := Lib.hid (((Below.refl w.heap.size w).alloc (Nat.le_refl _) (.cells #[.int .i64 r, .int .i64 c, .slice a n k] 47)).trans (b1.mono (by simp)))
  clear b1
  go_wp2
  go_ret
  exact ⟨rfl, B1.out⟩
theorem held_mat (r c : Int) (v : Value) (m : Nat) (mi : Int) (L : List Fr) (w : World) (hmi : mi = m) (h : RatsAt w v (markV m L)) (hm : m + cntL L ≤ 3000000) :
    Calls Try.prog 33 #[.agg #[.int .i64 r, .int .i64 c, v], .int .i64 mi] w fun e w' => e = .returned (.int .i64 ((m : Int) + cntL L)) ∧ Below w.heap.size w w' := by
  subst hmi
  obtain ⟨a, k, rfl, _, _⟩ := ratsAt_form h
  have T := fun o => held_ratv _ m m L (w.alloc o) rfl (h.below ((Below.refl _ _).alloc (Nat.le_refl _) o)) (by omega)
  obtain ⟨n, hn⟩ : ∃ n, (markV m L).length = n := ⟨_, rfl⟩
  rw [hn] at T ⊢
  obtain ⟨q, hq⟩ : ∃ q, cntL L = q := ⟨_, rfl⟩
  rw [hq] at T hm ⊢
  have hx : ¬ ((m : Int) + (q : Int) < 0) := by omega
  have HT := Lib.hid T
  clear T hn hq h
  go_enter Try.func33, Try.ntmps33
  go_wp2_with fail
  refine (HT.out _).mono ?_
  rintro e w1 ⟨rfl, b1⟩
  have B1 := Lib.hid (((Below.refl w.heap.size w).alloc (Nat.le_refl _) (.cells #[.int .i64 r, .int .i64 c, .slice a n k] 25)).trans (b1.mono (by simp)))
  clear b1
  go_wp2
  go_ret
  exact ⟨rfl, B1.out⟩
theorem mark_mat (r c : Int) (v : Value) (m : Nat) (mi : Int) (L : List Fr) (xs : List (Value × Value)) (B : Nat) (w : World) (hmi : mi = m) (h : OwnV w B v L xs) (hm : m + cntL L ≤ 9223372036854775807) (hn : L.length ≤ 1099511627776) :
    Calls Try.prog 32 #[.agg #[.int .i64 r, .int .i64 c, v], .int .i64 mi] w fun e w' => e = .returned (.int .i64 ((m : Int) + cntL L)) ∧ OwnV w' B v (markV m L) xs ∧ Kept (OnV v xs) w w' := by
  subst hmi
  have T := fun o => mark_ratv v m m L xs B (w.alloc o) rfl (h.alloc o) hm hn
  obtain ⟨a, k, rfl⟩ := h.slice
  obtain ⟨n, hnn⟩ : ∃ n, L.length = n := ⟨_, rfl⟩
  rw [hnn] at T ⊢
  have HT := Lib.hid T
  clear T hnn h hm hn
  go_enter Try.func32, Try.ntmps32
  go_wp2_with fail
  refine (HT.out _).mono ?_
  rintro e w1 ⟨rfl, o1, k1⟩
  have O1 := Lib.hid o1
  have K1 := Lib.hid ((Kept.of_below (S := OnV (.slice a n k) xs) ((Below.refl w.heap.size w).alloc (Nat.le_refl _) (.cells #[.int .i64 r, .int .i64 c, .slice a n k] 25))).trans k1)
  clear o1 k1
  go_wp2
  go_ret
  exact ⟨rfl, O1.out, K1.out⟩
theorem eq_mat (r c : Int) (v1 v2 : Value) (L : List Fr) (w : World) (h1 : RatsAt w v1 L) (h2 : RatsAt w v2 L) (hn : L.length ≤ 1048576) :
    Calls Try.prog 26 #[.agg #[.int .i64 r, .int .i64 c, v1], .agg #[.int .i64 r, .int .i64 c, v2]] w fun e w' => e = .returned (.bool true) ∧ Below w.heap.size w w' := by
  have T := Lib.hid (fun W (hW : Below w.heap.size w W) => eq_ratv v1 v2 L W (h1.below hW) (h2.below hW) hn)
  obtain ⟨a, k, rfl, _, _⟩ := ratsAt_form h1
  obtain ⟨a', k', rfl, _, _⟩ := ratsAt_form h2
  obtain ⟨n, hnn⟩ : ∃ n, L.length = n := ⟨_, rfl⟩
  rw [hnn] at T ⊢
  clear hnn h1 h2 hn
  go_enter Try.func26, Try.ntmps26
  go_wp2_with fail
  have bA := ((Below.refl w.heap.size w).alloc (Nat.le_refl _) (.cells #[.int .i64 r, .int .i64 c, .slice a n k] 25)).alloc (by simp) (.cells #[.int .i64 r, .int .i64 c, .slice a' n k'] 25)
  refine (T.out _ bA).mono ?_
  rintro e w1 ⟨rfl, b1⟩
  have B1 := Lib.hid (bA.trans (b1.mono (by simp; omega)))
  clear b1 bA
  go_wp2
  go_ret
  exact ⟨rfl, B1.out⟩
set_option maxHeartbeats 1000000 in
theorem to_mat (r c : Int) (v : Value) (L : List Fr) (w : World) (h : RatsAt w v L) (hn : L.length ≤ 1048576) (hl : ∀ f ∈ L, f.mag.length ≤ 1099511627776 ∧ f.den.length ≤ 1099511627776) :
    Calls Try.prog 25 #[.agg #[.int .i64 r, .int .i64 c, v]] w fun e w' => ∃ v' xs, e = .returned (.agg #[.int .i64 r, .int .i64 c, v']) ∧ OwnV w' w.heap.size v' L xs ∧ Below w.heap.size w w' := by
  have T := Lib.hid (fun W (hW : Below w.heap.size w W) => to_ratv v L W (h.below hW) hn hl)
  obtain ⟨a, k, rfl, _, _⟩ := ratsAt_form h
  obtain ⟨n, hnn⟩ : ∃ n, L.length = n := ⟨_, rfl⟩
  rw [hnn] at T ⊢
  have HN := Lib.hid hnn
  clear hnn h hn hl
  go_enter Try.func25, Try.ntmps25
  go_wp2_with fail
  obtain ⟨W3, hW3⟩ : ∃ x, x = ((w.alloc (.cells #[.int .i64 r, .int .i64 c, .slice a n k] 47)).alloc (.cells #[.int .i64 0, .int .i64 0, .slice none 0 0] 25)).alloc (.cells #[.int .i64 r, .int .i64 c, .slice none 0 0] 25) := ⟨_, rfl⟩
  have b3 : Below w.heap.size w W3 := by rw [hW3]; exact (((Below.refl _ _).alloc (Nat.le_refl _) _).alloc (by simp) _).alloc (by simp; omega) _
  have D1 : B3 W3 (w.heap.size + 1) 25 (.int .i64 0) (.int .i64 0) (.slice none 0 0) := by
    rw [hW3]
    have h := (B3.new (w.alloc (.cells #[.int .i64 r, .int .i64 c, .slice a n k] 47)) 25 (.int .i64 0) (.int .i64 0) (.slice none 0 0)).alloc (.cells #[.int .i64 r, .int .i64 c, .slice none 0 0] 25)
    rw [World.size_alloc] at h
    exact h
  have D2 : B3 W3 (w.heap.size + 1 + 1) 25 (.int .i64 r) (.int .i64 c) (.slice none 0 0) := by
    rw [hW3]
    have h := B3.new ((w.alloc (.cells #[.int .i64 r, .int .i64 c, .slice a n k] 47)).alloc (.cells #[.int .i64 0, .int .i64 0, .slice none 0 0] 25)) 25 (.int .i64 r) (.int .i64 c) (.slice none 0 0)
    rw [World.size_alloc, World.size_alloc] at h
    exact h
  have hsz : W3.heap.size = w.heap.size + 1 + 1 + 1 := by rw [hW3]; simp
  rw [← hW3]
  clear hW3
  refine (T.out _ b3).mono ?_
  rintro e w4 ⟨v', xs, rfl, o4, b4⟩
  obtain ⟨a', c', rfl⟩ := o4.slice
  rw [HN.out] at o4 ⊢
  have E1 := D1.below b4
  have E2 := D2.below b4
  have F2 := E2.set2 (.slice a' n c')
  have F1 := E1.keptK (kept_set w4 (w.heap.size + 1 + 1) 2 (.slice a' n c')) (fun e => by omega)
  have F1s := F1.set3 (.int .i64 r) (.int .i64 c) (.slice a' n c')
  have O6 := Lib.hid ((((o4.set_b3 E2 (by decide) (by decide) 2 (.slice a' n c')).set3_b3 F1 (by decide) (by decide) (.int .i64 r) (.int .i64 c) (.slice a' n c'))).base (by rw [hsz]; omega : w.heap.size ≤ W3.heap.size))
  have B6 := Lib.hid (((((b3.trans (b4.mono b3.size)).setCell (p := ⟨w.heap.size + 1 + 1, 2, none⟩) (show w.heap.size ≤ w.heap.size + 1 + 1 by omega) (.slice a' n c')).setCell (p := ⟨w.heap.size + 1, 0, none⟩) (Nat.le_succ _) (.int .i64 r)).setCell (p := ⟨w.heap.size + 1, 1, none⟩) (Nat.le_succ _) (.int .i64 c)).setCell (p := ⟨w.heap.size + 1, 2, none⟩) (Nat.le_succ _) (.slice a' n c'))
  have i2 := E2.c2
  have j2 := E2.f 2
  have k0 := F2.c0
  have k1 := F2.c1
  have k2 := F2.c2
  have l0 := F1.c0
  have l1 := F1.c1
  have l2 := F1.c2
  have m0 := F1.f 0
  have m1 := F1.f 1
  have m2 := F1.f 2
  have n0 := F1s.c0
  have n1 := F1s.c1
  have n2 := F1s.c2
  clear E1 E2 F1 F2 F1s D1 D2 o4 b4 b3 T hsz
  go_wp2
  exact bodyPost_ret (v := .agg #[.int .i64 r, .int .i64 c, .slice a' n c']) (by simp [results, Try.results25, go_sem, n0, n1, n2]) rfl ⟨_, xs, rfl, O6.out, B6.out⟩
set_option maxRecDepth 100000 in
/-- a Matrix that came in -/
theorem mat_in {H : Type} {enc : TypeId × Value → H} {W : World} {r : Reach} {b0 : Nat} {v : Value} {d : DataW H} {p : List MemPlace}
    (hv : Value.okWide Try.prog W r b0 47 v) (h : DataW.Trod enc Try.prog W 0 (fun _ => true) true 47 v d p) :
    ∃ (rows cols : Int) (u : Value) (L : List Fr), v = .agg #[.int .i64 rows, .int .i64 cols, u] ∧ (Lit.int .i64 rows).wf = true ∧ (Lit.int .i64 cols).wf = true ∧ RatsAt W u L ∧ True := by
  obtain ⟨v0, v1, v2, y0, y1, y2, n, rfl, _, _, h0, h1, h2⟩ := Go.Joins.open_agg3 Try.underlying47 (by kernel_rfl) (by kernel_rfl) hv h
  obtain ⟨rows, hr, _, wr⟩ := DataW.trod_int Try.underlying3 h0
  obtain ⟨cols, hc, _, wc⟩ := DataW.trod_int Try.underlying3 h1
  obtain rfl : v0 = .int .i64 rows := by simpa using hr
  obtain rfl : v1 = .int .i64 cols := by simpa using hc
  have hs : ∃ a l c, v2 = .slice a l c := by
    rcases open_slice Try.underlying45 h2 with ⟨hcs, _⟩ | ⟨x, len, cap, m, n, D, Pl, hcs, _⟩
    · exact ⟨none, 0, 0, by simpa using hcs⟩
    · exact ⟨some x, len, cap, by simpa using hcs⟩
  obtain ⟨a, l, c, rfl⟩ := hs
  obtain ⟨L, hL, _⟩ := rats_in (enc := enc) (W := W) (a := a) (l := l) (c := c) (d := y2.1) (p := y2.2) ⟨n, h2⟩
  exact ⟨rows, cols, _, L, rfl, wr, wc, hL, trivial⟩
end Go.Proofs.Ytojklmckjebplaa

/-! MatOk -/
namespace Go.Proofs.Ytojklmckjebplaa
set_option maxRecDepth 100000
set_option linter.unusedVariables false
set_option linter.unusedSimpArgs false
open Go.RowKit Go.WideShapes Go.ChangeShapes
set_option linter.unusedVariables false
set_option linter.unusedSimpArgs false
def dimB (n : Int) : Bool := decide (0 ≤ n) && decide (n ≤ 24)
theorem dimB_iff {n : Int} : dimB n = true ↔ 0 ≤ n ∧ n ≤ 24 := by unfold dimB; simp
def matB (ok : Bool → List Int → List Int → Bool) (r c : Int) (L : List Fr) : Bool := dimB r && (dimB c && (decide ((L.length : Int) = r * c) && L.all (fun f => ok f.neg f.mag f.den)))
theorem dim_mul {r c : Int} (hr : dimB r = true) (hc : dimB c = true) : 0 ≤ r * c ∧ r * c ≤ 576 := by
  obtain ⟨h1, h2⟩ := dimB_iff.1 hr
  obtain ⟨h3, h4⟩ := dimB_iff.1 hc
  obtain ⟨a, rfl⟩ : ∃ a : Nat, r = a := ⟨r.toNat, by omega⟩
  obtain ⟨b, rfl⟩ : ∃ b : Nat, c = b := ⟨c.toNat, by omega⟩
  have h : a * b ≤ 24 * 24 := Nat.mul_le_mul (by omega) (by omega)
  refine ⟨Int.mul_nonneg h1 h3, ?_⟩
  have h' : ((a * b : Nat) : Int) ≤ 576 := by omega
  rw [Int.natCast_mul] at h'
  exact h'

set_option maxHeartbeats 1000000 in
theorem spec_matrixOk (ok : Bool → List Int → List Int → Bool)
    (HOK : ∀ b v zs d ds w, RowR w v zs d ds → Calls Try.prog 61 #[.agg #[.bool b, v, d]] w fun r w' => r = .returned (.bool (ok b zs ds)) ∧ Below w.heap.size w w')
    (r c : Int) (v : Value) (L : List Fr) (w : World) (h : RatsAt w v L) :
    Calls Try.prog 24 #[.agg #[.int .i64 r, .int .i64 c, v]] w fun e w' => e = .returned (.bool (matB ok r c L)) ∧ Below w.heap.size w w' := by
  obtain ⟨a, cap, rfl, hc, hm, hr⟩ := h
  unfold maxLen at hm
  obtain ⟨n, hnn⟩ : ∃ n, L.length = n := ⟨_, rfl⟩
  have R := Lib.hid hr
  clear hr
  rw [hnn] at hc ⊢
  have HN := Lib.hid hnn
  clear hnn
  obtain ⟨x, hx⟩ : ∃ x, x = matB ok r c L := ⟨_, rfl⟩
  rw [← hx]
  have HX := Lib.hid hx
  clear hx
  cases q0 : dimB r with
  | false =>
    obtain rfl : x = false := HX.out.trans (by unfold matB; rw [q0]; rfl)
    have p0 : (decide (0 ≤ r) && decide (r ≤ 24)) = false := q0
    clear q0
    go_enter Try.func24, Try.ntmps24
    go_wp2_with fail
    obtain ⟨W0, hW0⟩ : ∃ x, x = w.alloc (.cells #[.int .i64 r, .int .i64 c, .slice a n cap] 25) := ⟨_, rfl⟩
    have D := Lib.hid (show B3 W0 w.heap.size 25 (.int .i64 r) (.int .i64 c) (.slice a n cap) by rw [hW0]; exact B3.new _ _ _ _ _)
    have B0 := Lib.hid (show Below w.heap.size w W0 by rw [hW0]; exact (Below.refl _ _).alloc (Nat.le_refl _) _)
    have z := Lib.hid (show w.heap.size < W0.heap.size by rw [hW0]; simp)
    rw [← hW0]
    clear hW0
    have d0 := D.out.c0
    have d1 := D.out.c1
    have d2 := D.out.c2
    refine (spec_in _ _ _ _).mono ?_
    rw [p0]
    rintro e w' ⟨rfl, h9⟩
    replace h9 := h9.symm
    subst h9
    go_wp2
    go_ret
    exact ⟨rfl, B0.out⟩
  | true =>
  have p0 : (decide (0 ≤ r) && decide (r ≤ 24)) = true := q0
  cases q1 : dimB c with
  | false =>
    obtain rfl : x = false := HX.out.trans (by unfold matB; rw [q1]; simp)
    have p1 : (decide (0 ≤ c) && decide (c ≤ 24)) = false := q1
    clear q0 q1
    go_enter Try.func24, Try.ntmps24
    go_wp2_with fail
    obtain ⟨W0, hW0⟩ : ∃ x, x = w.alloc (.cells #[.int .i64 r, .int .i64 c, .slice a n cap] 25) := ⟨_, rfl⟩
    have D := Lib.hid (show B3 W0 w.heap.size 25 (.int .i64 r) (.int .i64 c) (.slice a n cap) by rw [hW0]; exact B3.new _ _ _ _ _)
    have B0 := Lib.hid (show Below w.heap.size w W0 by rw [hW0]; exact (Below.refl _ _).alloc (Nat.le_refl _) _)
    have z := Lib.hid (show w.heap.size < W0.heap.size by rw [hW0]; simp)
    rw [← hW0]
    clear hW0
    refine (spec_in _ _ _ _).mono ?_
    rw [p0]
    rintro e w' ⟨rfl, h9⟩
    replace h9 := h9.symm
    subst h9
    have d0 := D.out.c0
    have d1 := D.out.c1
    have d2 := D.out.c2
    go_wp2_with fail
    refine (spec_in _ _ _ _).mono ?_
    rw [p1]
    rintro e w' ⟨rfl, h9⟩
    replace h9 := h9.symm
    subst h9
    go_wp2
    go_ret
    exact ⟨rfl, B0.out⟩
  | true =>
  have p1 : (decide (0 ≤ c) && decide (c ≤ 24)) = true := q1
  obtain ⟨hm0, hm1⟩ := dim_mul q0 q1
  by_cases hl : (n : Int) = r * c
  rotate_left
  · obtain rfl : x = false := HX.out.trans (by unfold matB; rw [decide_eq_false (by rw [HN.out]; exact hl)]; simp)
    have hne : ((n : Int) == r * c) = false := by rw [beq_eq_false_iff_ne]; exact hl
    clear q0 q1
    go_enter Try.func24, Try.ntmps24
    go_wp2_with fail
    obtain ⟨W0, hW0⟩ : ∃ x, x = w.alloc (.cells #[.int .i64 r, .int .i64 c, .slice a n cap] 25) := ⟨_, rfl⟩
    have D := Lib.hid (show B3 W0 w.heap.size 25 (.int .i64 r) (.int .i64 c) (.slice a n cap) by rw [hW0]; exact B3.new _ _ _ _ _)
    have B0 := Lib.hid (show Below w.heap.size w W0 by rw [hW0]; exact (Below.refl _ _).alloc (Nat.le_refl _) _)
    have z := Lib.hid (show w.heap.size < W0.heap.size by rw [hW0]; simp)
    rw [← hW0]
    clear hW0
    refine (spec_in _ _ _ _).mono ?_
    rw [p0]
    rintro e w' ⟨rfl, h9⟩
    replace h9 := h9.symm
    subst h9
    have d0 := D.out.c0
    have d1 := D.out.c1
    have d2 := D.out.c2
    go_wp2_with fail
    refine (spec_in _ _ _ _).mono ?_
    rw [p1]
    rintro e w' ⟨rfl, h9⟩
    replace h9 := h9.symm
    subst h9
    go_wp2
    go_ret
    exact ⟨rfl, B0.out⟩
  have hne : ((n : Int) == r * c) = true := by rw [beq_iff_eq]; exact hl
  have hne2 : ((n : Int) != r * c) = false := by unfold bne; rw [hne]; rfl
  have HE := Lib.hid (show matB ok r c L = L.all (fun f => ok f.neg f.mag f.den) by unfold matB; rw [q0, q1, decide_eq_true (by rw [HN.out]; exact hl)]; rfl)
  have hn9 : n ≤ 576 := by omega
  clear q0 q1 hl
  go_enter Try.func24, Try.ntmps24
  go_wp2_with fail
  obtain ⟨W0, hW0⟩ : ∃ x, x = w.alloc (.cells #[.int .i64 r, .int .i64 c, .slice a n cap] 25) := ⟨_, rfl⟩
  have D := Lib.hid (show B3 W0 w.heap.size 25 (.int .i64 r) (.int .i64 c) (.slice a n cap) by rw [hW0]; exact B3.new _ _ _ _ _)
  have B0 := Lib.hid (show Below w.heap.size w W0 by rw [hW0]; exact (Below.refl _ _).alloc (Nat.le_refl _) _)
  have z := Lib.hid (show w.heap.size < W0.heap.size by rw [hW0]; simp)
  rw [← hW0]
  clear hW0
  refine (spec_in _ _ _ _).mono ?_
  rw [p0]
  rintro e w' ⟨rfl, h9⟩
  replace h9 := h9.symm
  subst h9
  have d0 := D.out.c0
  have d1 := D.out.c1
  have d2 := D.out.c2
  go_wp2_with fail
  refine (spec_in _ _ _ _).mono ?_
  rw [p1]
  rintro e w' ⟨rfl, h9⟩
  replace h9 := h9.symm
  subst h9
  go_wp2_with fail
  clear d0 d1 d2 p0 p1 hm0 hm1 hne hne2
  have HB := Lib.hid (Below.refl W0.heap.size W0)
  go_loopw [29] (fun iv wr => ∃ k : Nat, k ≤ n ∧ iv = .int .i64 k ∧ Hid ((L.take k).all (fun f => ok f.neg f.mag f.den) = true) ∧ Hid (Below W0.heap.size W0 wr)) (fun iv _ => n - (intOf iv).toNat)
  case atStart => exact ⟨0, Nat.zero_le _, rfl, Lib.hid (by simp), HB⟩
  case round =>
    obtain ⟨k, hk, rfl, HA, HBW⟩ := hrel
    by_cases hlt : k < n
    · have hltL : k < L.length := by rw [HN.out]; exact hlt
      have HBk := Lib.hid (B0.out.trans (HBW.out.mono B0.out.size))
      obtain ⟨b, o, x', y, rfl, c0, c1, c2, hrr⟩ := R.out k hltL
      have d0 := (HBk.out.cell (World.block_lt_of_cell? w _ c0)).trans c0
      have d1 := (HBk.out.cell (World.block_lt_of_cell? w _ c1)).trans c1
      have d2 := (HBk.out.cell (World.block_lt_of_cell? w _ c2)).trans c2
      have RR := Lib.hid (hrr.below HBk.out)
      obtain ⟨a1, r1, a2, r2, rfl, rfl, hz1, hz2⟩ := rowR_len hrr
      clear c0 c1 c2 R hrr
      cases hq : ok (L[k]'hltL).neg (L[k]'hltL).mag (L[k]'hltL).den with
      | true =>
        go_wp2_with fail
        have bA := (Below.refl wr.heap.size wr).alloc (Nat.le_refl _) (.cells #[.bool (L[k]'hltL).neg, .slice a1 (L[k]'hltL).mag.length r1, .slice a2 (L[k]'hltL).den.length r2] 42)
        have T := HOK (L[k]'hltL).neg _ _ _ _ _ (RR.out.below bA)
        rw [hq] at T
        refine T.mono ?_
        rintro e w1 ⟨rfl, b1⟩
        have BB := Lib.hid (HBW.out.trans ((bA.trans (b1.mono (by simp))).mono HBW.out.size))
        clear b1 T bA
        go_wp2_with fail
        exact ⟨⟨k + 1, by omega, by go_num, Lib.hid (by rw [all_take hltL, HA.out, hq]; rfl), BB⟩, by simp [intOf]; omega⟩
      | false =>
        obtain rfl : x = false := HX.out.trans (HE.out.trans (all_no hltL hq))
        go_wp2_with fail
        have bA := (Below.refl wr.heap.size wr).alloc (Nat.le_refl _) (.cells #[.bool (L[k]'hltL).neg, .slice a1 (L[k]'hltL).mag.length r1, .slice a2 (L[k]'hltL).den.length r2] 42)
        have T := HOK (L[k]'hltL).neg _ _ _ _ _ (RR.out.below bA)
        rw [hq] at T
        refine T.mono ?_
        rintro e w1 ⟨rfl, b1⟩
        have BB := Lib.hid (HBk.out.trans ((bA.trans (b1.mono (by simp))).mono HBk.out.size))
        clear b1 T bA
        go_wp2_with fail
        go_ret
        exact ⟨rfl, BB.out⟩
    · obtain rfl : k = n := by omega
      have h2 := HA.out
      rw [← HN.out, List.take_length] at h2
      obtain rfl : x = true := HX.out.trans (HE.out.trans h2)
      clear h2
      go_wp2
      go_ret
      exact ⟨rfl, B0.out.trans (HBW.out.mono B0.out.size)⟩

end Go.Proofs.Ytojklmckjebplaa

/-! MatRow -/
namespace Go.Proofs.Ytojklmckjebplaa
set_option maxRecDepth 100000
set_option linter.unusedVariables false
set_option linter.unusedSimpArgs false
open Go.RowKit Go.WideShapes Go.ChangeShapes
set_option linter.unusedVariables false
set_option linter.unusedSimpArgs false
set_option maxRecDepth 100000 in
set_option maxHeartbeats 2000000 in
theorem spec_vecCopy (Q : Fr → Prop)
    (HC : ∀ (f : Fr), Q f → ∀ v d w, RowR w v f.mag d f.den → Calls Try.prog 67 #[.agg #[.bool f.neg, v, d]] w fun r w' => ∃ x y, r = .returned (.agg #[.bool f.neg, x, y]) ∧ OwnR w' w.heap.size x f.mag y f.den ∧ Below w.heap.size w w')
    (v : Value) (L : List Fr) (w : World) (h : RatsAt w v L) (hl : L.length ≤ 100000) (HQ : ∀ k (hk : k < L.length), Q (L[k]'hk)) :
    Calls Try.prog 73 #[v] w fun e w' => ∃ u xs, e = .returned u ∧ OwnV w' w.heap.size u L xs ∧ Below w.heap.size w w' := by
  obtain ⟨a, cap, rfl, hc, hm, hr⟩ := h
  unfold maxLen at hm
  have R := Lib.hid hr
  have HQ := Lib.hid HQ
  clear hr
  obtain ⟨n, hnn⟩ : ∃ n, L.length = n := ⟨_, rfl⟩
  rw [hnn] at hc hl ⊢
  have HN := Lib.hid hnn
  clear hnn
  go_enter Try.func73, Try.ntmps73
  go_wp2_with fail
  obtain ⟨W1, hW1⟩ : ∃ x, x = w.alloc (.cells #[] 42) := ⟨_, rfl⟩
  have HO := Lib.hid (show OwnV W1 w.heap.size (.slice (some ⟨w.heap.size, 0, none⟩) 0 0) (L.take 0) [] by rw [hW1]; exact OwnV.lit0 w)
  have HB := Lib.hid (show Below w.heap.size w W1 by rw [hW1]; exact (Below.refl _ _).alloc (Nat.le_refl _) _)
  rw [← hW1]
  clear hW1
  go_loopw [3, 9] (fun ov iv wr => ∃ (k : Nat) (vo : Value), k ≤ n ∧ iv = .int .i64 k ∧ vo = ov ∧ ∃ xs, Hid (OwnV wr w.heap.size vo (L.take k) xs) ∧ Hid (Below w.heap.size w wr)) (fun _ iv _ => n - (intOf iv).toNat)
  case atStart => exact ⟨0, _, Nat.zero_le _, rfl, rfl, _, HO, HB⟩
  case round =>
    obtain ⟨k, vo, hk, rfl, rfl, xs, HK, HBk⟩ := hrel
    by_cases hlt : k < n
    · have hlt1 : k < L.length := by rw [HN.out]; exact hlt
      obtain ⟨b', o', x', y', rfl, g0, g1, g2, hss⟩ := R.out k hlt1
      have f0 := (HBk.out.cell (World.block_lt_of_cell? w _ g0)).trans g0
      have f1 := (HBk.out.cell (World.block_lt_of_cell? w _ g1)).trans g1
      have f2 := (HBk.out.cell (World.block_lt_of_cell? w _ g2)).trans g2
      have SS := Lib.hid (hss.below HBk.out)
      obtain ⟨a3, r3, a4, r4, rfl, rfl, hz3, hz4⟩ := rowR_len hss
      clear g0 g1 g2 R hss
      obtain ⟨wb, hwb⟩ : ∃ x, x = wr.alloc (.cells #[.bool (L[k]'hlt1).neg, .slice a3 (L[k]'hlt1).mag.length r3, .slice a4 (L[k]'hlt1).den.length r4] 42) := ⟨_, rfl⟩
      have bW : Below wr.heap.size wr wb := by rw [hwb]; exact (Below.refl wr.heap.size wr).alloc (Nat.le_refl _) _
      go_wp2_with fail
      rw [← hwb]
      have O9 := Lib.hid (show OwnV wb w.heap.size vo _ xs by rw [hwb]; exact HK.out.alloc _)
      have B9 := Lib.hid (show Below w.heap.size w wb by rw [hwb]; exact HBk.out.alloc HBk.out.size _)
      have L9 := Lib.hid O9.out.lt
      have BW := Lib.hid B9.out.size
      refine (HC (L[k]'hlt1) (HQ.out k hlt1) _ _ wb (SS.out.below bW)).mono ?_
      rintro e w_r ⟨x_r, y_r, rfl, o_r, bb_r⟩
      obtain ⟨a_r, c_r, e_r, f_r, rfl, rfl⟩ := o_r.slices
      have hbb := bb_r.size
      have lr := o_r.lt
      have hlen : (L.take k).length ≤ 100000 := by simp; omega
      clear hwb f0 f1 f2 HK
      go_wp2_with (at_builtin; refine append_rat rfl _ _ rfl w.heap.size vo _ xs rfl ((O9.out.below bb_r).alloc _) hlen (by have := BW.out; simp; omega) _ _ rfl (L[k]'hlt1) _ _ (World.alloc_heap_new _ _) (OwnR.base (o_r.alloc _) BW.out) (fun i hi r r' h1 h2 => by have h3 := (L9.out r (.inr ⟨_, List.getElem_mem hi, h1⟩)).2; have h4 := (lr r' h2).1; omega) (fun r h2 h1 => by have h3 := (L9.out r (.inl h1)).2; have h4 := (lr r h2).1; omega) ?_; intro v_n w_n o_n g_n l_n)
      exact ⟨⟨k + 1, v_n, by omega, by go_num, rfl, _, Lib.hid (by rw [List.take_succ_eq_append_getElem hlt1]; exact o_n), Lib.hid (((B9.out.trans (bb_r.mono B9.out.size)).alloc (Nat.le_trans BW.out bb_r.size) _).grown g_n (by have := BW.out; simp; omega) (fun q hq => (L9.out q (.inl hq)).1))⟩, by simp [intOf]; omega⟩
    · obtain rfl : k = n := by omega
      have hT1 : L.take k = L := by rw [← HN.out, List.take_length]
      rw [hT1] at HK
      go_wp2
      go_ret
      first | exact ⟨vo, xs, rfl, HK.out, HBk.out⟩ | exact ⟨vo, rfl, ⟨xs, HK.out⟩, HBk.out⟩
def eqM (q : List Fr → List Fr → Bool) (r0 c0 : Int) (L0 : List Fr) (r1 c1 : Int) (L1 : List Fr) : Bool := (r0 == r1) && ((c0 == c1) && q L0 L1)
theorem spec_eqM (q : List Fr → List Fr → Bool)
    (HQ : ∀ v0 L0 v1 L1 w, RatsAt w v0 L0 → RatsAt w v1 L1 → Calls Try.prog 80 #[v0, v1] w fun e w' => e = .returned (.bool (q L0 L1)) ∧ Below w.heap.size w w')
    (r0 c0 : Int) (v0 : Value) (L0 : List Fr) (r1 c1 : Int) (v1 : Value) (L1 : List Fr) (w : World) (h0 : RatsAt w v0 L0) (h1 : RatsAt w v1 L1) :
    Calls Try.prog 47 #[.agg #[.int .i64 r0, .int .i64 c0, v0], .agg #[.int .i64 r1, .int .i64 c1, v1]] w fun e w' => e = .returned (.bool (eqM q r0 c0 L0 r1 c1 L1)) ∧ Below w.heap.size w w' := by
  have T := Lib.hid (fun W (hW : Below w.heap.size w W) => HQ v0 L0 v1 L1 W (h0.below hW) (h1.below hW))
  obtain ⟨a, k, rfl, _, _⟩ := ratsAt_form h0
  obtain ⟨a', k', rfl, _, _⟩ := ratsAt_form h1
  obtain ⟨n, hn⟩ : ∃ n, L0.length = n := ⟨_, rfl⟩
  obtain ⟨n', hn'⟩ : ∃ n, L1.length = n := ⟨_, rfl⟩
  rw [hn] at T ⊢
  rw [hn'] at T ⊢
  clear hn hn' h0 h1
  obtain ⟨x, hx⟩ : ∃ x, x = eqM q r0 c0 L0 r1 c1 L1 := ⟨_, rfl⟩
  rw [← hx]
  have HX := Lib.hid hx
  clear hx
  have bA := ((Below.refl w.heap.size w).alloc (Nat.le_refl _) (.cells #[.int .i64 r0, .int .i64 c0, .slice a n k] 25)).alloc (by simp) (.cells #[.int .i64 r1, .int .i64 c1, .slice a' n' k'] 25)
  have BA := Lib.hid bA
  clear bA
  cases h1 : (r0 == r1) with
  | false =>
    obtain rfl : x = false := HX.out.trans (by unfold eqM; rw [h1]; rfl)
    go_enter Try.func47, Try.ntmps47
    go_wp2
    go_ret
    exact ⟨rfl, BA.out⟩
  | true =>
    obtain rfl := eq_of_beq h1
    clear h1
    cases h2 : (c0 == c1) with
    | false =>
      obtain rfl : x = false := HX.out.trans (by unfold eqM; rw [h2]; simp)
      go_enter Try.func47, Try.ntmps47
      go_wp2
      go_ret
      exact ⟨rfl, BA.out⟩
    | true =>
      obtain rfl := eq_of_beq h2
      clear h2
      obtain rfl : x = q L0 L1 := HX.out.trans (by unfold eqM; simp)
      go_enter Try.func47, Try.ntmps47
      go_wp2_with fail
      refine (T.out _ BA.out).mono ?_
      rintro e w1 ⟨rfl, b1⟩
      have B1 := Lib.hid (BA.out.trans (b1.mono BA.out.size))
      clear b1
      go_wp2
      go_ret
      exact ⟨rfl, B1.out⟩

end Go.Proofs.Ytojklmckjebplaa

/-! MatAt -/
namespace Go.Proofs.Ytojklmckjebplaa
set_option maxRecDepth 100000
set_option linter.unusedVariables false
set_option linter.unusedSimpArgs false
open Go.RowKit Go.WideShapes Go.ChangeShapes
set_option linter.unusedVariables false
set_option linter.unusedSimpArgs false
theorem rats_part {w : World} {a : Option Addr} {n cap l C : Nat} {L : List Fr} (h : RatsAt w (.slice a n cap) L) (hl : l + C ≤ n) (hne : ¬ cap = l) : RatsAt w (.slice (a.map (·.add (l * 3))) C (cap - l)) ((L.drop l).take C) := by
  obtain ⟨a0, c0, e, h1, h2, h3⟩ := h
  injection e with e1 e2 e3
  subst e1 e2 e3
  have hlen : ((L.drop l).take C).length = C := by rw [List.length_take, List.length_drop]; omega
  refine ⟨a.map (·.add (l * 3)), cap - l, by rw [hlen], by rw [hlen]; omega, by omega, fun i hi => ?_⟩
  rw [hlen] at hi
  obtain ⟨b, o, x, y, rfl, k0, k1, k2, hr⟩ := h3 (l + i) (by omega)
  have hg : ((L.drop l).take C)[i]'(by rw [hlen]; exact hi) = L[l + i]'(by omega) := by simp
  refine ⟨b, o + l * 3, x, y, by simp [Addr.add], ?_, ?_, ?_, ?_⟩
  · rw [hg, show o + l * 3 + i * 3 = o + (l + i) * 3 by omega]; exact k0
  · rw [show o + l * 3 + i * 3 = o + (l + i) * 3 by omega]; exact k1
  · rw [show o + l * 3 + i * 3 = o + (l + i) * 3 by omega]; exact k2
  · rw [hg]; exact hr
theorem rats_none {w : World} {a : Option Addr} {c l : Nat} {L : List Fr} (hc : c ≤ maxLen) : RatsAt w (.slice a 0 c) ((L.drop l).take 0) :=
  ⟨a, c, by simp, by simp, hc, fun i hi => by simp at hi⟩
set_option maxHeartbeats 1000000 in
theorem spec_row (r : Int) (C i n : Nat) (a : Option Addr) (cap : Nat) (L : List Fr) (w : World) (h : RatsAt w (.slice a n cap) L) (hi : i * C + C ≤ n) (hn : n ≤ 576) (hC : C ≤ 24) (hi2 : i ≤ 24) :
    Calls Try.prog 74 #[.agg #[.int .i64 r, .int .i64 (C : Int), .slice a n cap], .int .i64 (i : Int)] w fun e w' => ∃ v, e = .returned v ∧ RatsAt w' v ((L.drop (i * C)).take C) ∧ Below w.heap.size w w' := by
  have H := Lib.hid h
  obtain ⟨a0, c0, e, h1, h2, h3⟩ := h
  injection e with e1 e2 e3
  subst e1 e2 e3
  clear h3
  unfold maxLen at h2
  obtain ⟨l, hl⟩ : ∃ l, i * C = l := ⟨_, rfl⟩
  have p1 : (i : Int) * (C : Int) = (l : Int) := by rw [← hl, Int.natCast_mul]
  have p2 : ((i : Int) + 1) * (C : Int) = ((l + C : Nat) : Int) := by rw [Int.add_mul, p1, Int.one_mul, Int.natCast_add]
  rw [hl] at hi ⊢
  have BA := Lib.hid ((Below.refl w.heap.size w).alloc (Nat.le_refl _) (.cells #[.int .i64 r, .int .i64 (C : Int), .slice a L.length cap] 25))
  by_cases hC0 : C = 0
  · subst hC0
    rw [Nat.mul_zero] at hl
    subst hl
    have HRs := Lib.hid (fun (W : World) (a : Option Addr) => rats_none (w := W) (a := a) (c := cap) (l := 0) (L := L) (by unfold maxLen; omega))
    by_cases hcl : cap = 0
    · subst hcl
      go_enter Try.func74, Try.ntmps74
      go_wp2
      go_ret
      exact ⟨.slice _ 0 _, rfl, HRs.out _ _, BA.out⟩
    · go_enter Try.func74, Try.ntmps74
      go_wp2
      go_ret
      exact ⟨.slice _ 0 _, rfl, HRs.out _ _, BA.out⟩
  · have hcl : ¬ cap = l := by omega
    have HRs := Lib.hid (fun W (hW : Below w.heap.size w W) => rats_part (H.out.below hW) hi hcl)
    clear hl
    go_enter Try.func74, Try.ntmps74
    go_wp2
    go_ret
    have hv := HRs.out _ BA.out
    have e9 : l + C - l = C := by omega
    first
      | exact ⟨_, rfl, hv, BA.out⟩
      | (rw [e9]; exact ⟨_, rfl, hv, BA.out⟩)

end Go.Proofs.Ytojklmckjebplaa

/-! MatGet -/
namespace Go.Proofs.Ytojklmckjebplaa
set_option maxRecDepth 100000
set_option linter.unusedVariables false
set_option linter.unusedSimpArgs false
open Go.RowKit Go.WideShapes Go.ChangeShapes
set_option linter.unusedVariables false
set_option linter.unusedSimpArgs false
def inB (n hi : Int) : Bool := decide (0 ≤ n) && decide (n ≤ hi)
theorem inB_iff {n hi : Int} : inB n hi = true ↔ 0 ≤ n ∧ n ≤ hi := by unfold inB; simp
def rowOk (ok : Bool → List Int → List Int → Bool) (r c : Int) (L : List Fr) (i : Int) : Bool := matB ok r c L && inB i (r - 1)
def rowL (ok : Bool → List Int → List Int → Bool) (r c : Int) (L : List Fr) (i : Int) : List Fr := if rowOk ok r c L i then (L.drop (i * c).toNat).take c.toNat else []
def cellF (ok : Bool → List Int → List Int → Bool) (r c : Int) (L : List Fr) (i k : Int) : Fr := if rowOk ok r c L i && inB k (c - 1) then L[(i * c + k).toNat]?.getD Fr.zero else Fr.zero
/-- A valid matrix: its numbers of rows and columns, and its elements. -/
theorem matB_parts {ok : Bool → List Int → List Int → Bool} {r c : Int} {L : List Fr} (h : matB ok r c L = true) :
    ∃ R C : Nat, r = R ∧ c = C ∧ R ≤ 24 ∧ C ≤ 24 ∧ L.length = R * C ∧ R * C ≤ 576 ∧ ∀ k (hk : k < L.length), ok (L[k]'hk).neg (L[k]'hk).mag (L[k]'hk).den = true := by
  unfold matB at h
  simp only [Bool.and_eq_true, decide_eq_true_eq, List.all_eq_true] at h
  obtain ⟨h1, h2, h3, h4⟩ := h
  have hd := dim_mul h1 h2
  obtain ⟨a1, a2⟩ := dimB_iff.1 h1
  obtain ⟨b1, b2⟩ := dimB_iff.1 h2
  obtain ⟨R, rfl⟩ : ∃ a : Nat, r = a := ⟨r.toNat, by omega⟩
  obtain ⟨C, rfl⟩ : ∃ a : Nat, c = a := ⟨c.toNat, by omega⟩
  rw [← Int.natCast_mul] at h3 hd
  exact ⟨R, C, rfl, rfl, by omega, by omega, by omega, by omega, fun k hk => h4 _ (List.getElem_mem hk)⟩
/-- Row i lies within the cells. -/
theorem row_in {R C i : Nat} (hi : i < R) : i * C + C ≤ R * C := by
  have := Nat.mul_le_mul_right C (show i + 1 ≤ R from hi)
  rw [Nat.add_mul, Nat.one_mul] at this
  exact this

set_option maxRecDepth 100000 in
set_option maxHeartbeats 1000000 in
theorem spec_rowOf (ok : Bool → List Int → List Int → Bool)
    (HOK : ∀ b v zs d ds w, RowR w v zs d ds → Calls Try.prog 61 #[.agg #[.bool b, v, d]] w fun r w' => r = .returned (.bool (ok b zs ds)) ∧ Below w.heap.size w w')
    (HC : ∀ (f : Fr), ok f.neg f.mag f.den = true → ∀ v d w, RowR w v f.mag d f.den → Calls Try.prog 67 #[.agg #[.bool f.neg, v, d]] w fun r w' => ∃ x y, r = .returned (.agg #[.bool f.neg, x, y]) ∧ OwnR w' w.heap.size x f.mag y f.den ∧ Below w.heap.size w w')
    (r c i : Int) (v : Value) (L : List Fr) (w : World) (h : RatsAt w v L) (hi : -9223372036854775808 ≤ i ∧ i ≤ 9223372036854775807) :
    Calls Try.prog 40 #[.agg #[.int .i64 r, .int .i64 c, v], .int .i64 i] w fun e w' => ∃ u xs, e = .returned u ∧ OwnV w' w.heap.size u (rowL ok r c L i) xs ∧ Below w.heap.size w w' := by
  obtain ⟨a, cap, rfl, hc, hm, hr⟩ := h
  have HR := Lib.hid (show RatsAt w (.slice a L.length cap) L from ⟨a, cap, rfl, hc, hm, hr⟩)
  unfold maxLen at hm
  clear hr
  obtain ⟨n, hnn⟩ : ∃ n, L.length = n := ⟨_, rfl⟩
  rw [hnn] at hc HR ⊢
  have HN := Lib.hid hnn
  clear hnn
  cases q0 : matB ok r c L with
  | false =>
    have e0 : rowL ok r c L i = [] := by unfold rowL rowOk; rw [q0]; rfl
    rw [e0]
    clear e0
    go_enter Try.func40, Try.ntmps40
    go_wp2_with fail
    obtain ⟨W0, hW0⟩ : ∃ x, x = w.alloc (.cells #[.int .i64 r, .int .i64 c, .slice a n cap] 25) := ⟨_, rfl⟩
    have D := Lib.hid (show B3 W0 w.heap.size 25 (.int .i64 r) (.int .i64 c) (.slice a n cap) by rw [hW0]; exact B3.new _ _ _ _ _)
    have B0 := Lib.hid (show Below w.heap.size w W0 by rw [hW0]; exact (Below.refl _ _).alloc (Nat.le_refl _) _)
    rw [← hW0]
    clear hW0
    have d0 := D.out.c0
    have d1 := D.out.c1
    have d2 := D.out.c2
    try go_wp2_with fail
    have T := spec_matrixOk ok HOK r c _ L W0 (HR.out.below B0.out)
    rw [q0] at T
    refine T.mono ?_
    rintro e w1 ⟨rfl, b1⟩
    replace D := Lib.hid (D.out.below b1)
    replace B0 := Lib.hid (B0.out.trans (b1.mono B0.out.size))
    clear b1 T d0 d1 d2
    go_wp2
    go_ret
    exact ⟨_, _, rfl, OwnV.nil _ _, B0.out⟩
  | true =>
  obtain ⟨R, C, rfl, rfl, hR, hC, hLn, hRC, hE⟩ := matB_parts q0
  rw [HN.out] at hLn
  have HLN := Lib.hid hLn
  have hn9 : n ≤ 576 := by omega
  clear hLn hRC
  cases q1 : inB i ((R : Int) - 1) with
  | false =>
    have e0 : rowL ok R C L i = [] := by unfold rowL rowOk; rw [q0, q1]; rfl
    rw [e0]
    clear e0
    have p1 : (decide (0 ≤ i) && decide (i ≤ (R : Int) - 1)) = false := q1
    go_enter Try.func40, Try.ntmps40
    go_wp2_with fail
    obtain ⟨W0, hW0⟩ : ∃ x, x = w.alloc (.cells #[.int .i64 (R : Int), .int .i64 (C : Int), .slice a n cap] 25) := ⟨_, rfl⟩
    have D := Lib.hid (show B3 W0 w.heap.size 25 (.int .i64 (R : Int)) (.int .i64 (C : Int)) (.slice a n cap) by rw [hW0]; exact B3.new _ _ _ _ _)
    have B0 := Lib.hid (show Below w.heap.size w W0 by rw [hW0]; exact (Below.refl _ _).alloc (Nat.le_refl _) _)
    rw [← hW0]
    clear hW0
    have d0 := D.out.c0
    have d1 := D.out.c1
    have d2 := D.out.c2
    try go_wp2_with fail
    have T := spec_matrixOk ok HOK R C _ L W0 (HR.out.below B0.out)
    rw [q0] at T
    refine T.mono ?_
    rintro e w1 ⟨rfl, b1⟩
    replace D := Lib.hid (D.out.below b1)
    replace B0 := Lib.hid (B0.out.trans (b1.mono B0.out.size))
    clear b1 T d0 d1 d2
    have d0 := D.out.c0
    have d1 := D.out.c1
    have d2 := D.out.c2
    go_wp2_with fail
    refine (spec_in _ _ _ _).mono ?_
    rw [p1]
    rintro e w' ⟨rfl, h9⟩
    replace h9 := h9.symm
    subst h9
    clear d0 d1 d2
    go_wp2
    go_ret
    exact ⟨_, _, rfl, OwnV.nil _ _, B0.out⟩
  | true =>
  have p1 : (decide (0 ≤ i) && decide (i ≤ (R : Int) - 1)) = true := q1
  obtain ⟨hi0, hi1⟩ := inB_iff.1 q1
  obtain ⟨I, rfl⟩ : ∃ a : Nat, i = a := ⟨i.toNat, by omega⟩
  have hin : I * C + C ≤ n := by rw [HLN.out]; exact row_in (by omega)
  have e0 : rowL ok R C L I = (L.drop (I * C)).take C := by
    unfold rowL rowOk; rw [q0, q1]; simp only [Bool.and_true, ite_true, ← Int.natCast_mul, Int.toNat_natCast]
  rw [e0]
  clear e0
  have HE := Lib.hid (show ∀ k (hk : k < ((L.drop (I * C)).take C).length), ok (((L.drop (I * C)).take C)[k]'hk).neg (((L.drop (I * C)).take C)[k]'hk).mag (((L.drop (I * C)).take C)[k]'hk).den = true by
    intro k hk; simp only [List.getElem_take, List.getElem_drop]; exact hE _ _)
  have HL9 := Lib.hid (show ((L.drop (I * C)).take C).length ≤ 100000 by rw [List.length_take]; omega)
  clear hE
  obtain ⟨Z, hZ⟩ : ∃ x, x = (L.drop (I * C)).take C := ⟨_, rfl⟩
  rw [← hZ]
  have HSR := Lib.hid (fun W (hW : Below w.heap.size w W) => spec_row (R : Int) C I n a cap L W (HR.out.below hW) hin (by omega) hC (by omega))
  rw [← hZ] at HSR HE HL9
  clear hZ
  go_enter Try.func40, Try.ntmps40
  go_wp2_with fail
  obtain ⟨W0, hW0⟩ : ∃ x, x = w.alloc (.cells #[.int .i64 (R : Int), .int .i64 (C : Int), .slice a n cap] 25) := ⟨_, rfl⟩
  have D := Lib.hid (show B3 W0 w.heap.size 25 (.int .i64 (R : Int)) (.int .i64 (C : Int)) (.slice a n cap) by rw [hW0]; exact B3.new _ _ _ _ _)
  have B0 := Lib.hid (show Below w.heap.size w W0 by rw [hW0]; exact (Below.refl _ _).alloc (Nat.le_refl _) _)
  rw [← hW0]
  clear hW0
  have d0 := D.out.c0
  have d1 := D.out.c1
  have d2 := D.out.c2
  try go_wp2_with fail
  have T := spec_matrixOk ok HOK R C _ L W0 (HR.out.below B0.out)
  rw [q0] at T
  refine T.mono ?_
  rintro e w1 ⟨rfl, b1⟩
  replace D := Lib.hid (D.out.below b1)
  replace B0 := Lib.hid (B0.out.trans (b1.mono B0.out.size))
  clear b1 T d0 d1 d2
  have d0 := D.out.c0
  have d1 := D.out.c1
  have d2 := D.out.c2
  go_wp2_with fail
  refine (spec_in _ _ _ _).mono ?_
  rw [p1]
  rintro e w' ⟨rfl, h9⟩
  replace h9 := h9.symm
  subst h9
  clear d0 d1 d2
  have d0 := D.out.c0
  have d1 := D.out.c1
  have d2 := D.out.c2
  have T := HSR.out _ B0.out
  go_wp2_with fail
  refine T.mono ?_
  rintro e w3 ⟨u3, rfl, r3, b3⟩
  replace B0 := Lib.hid (B0.out.trans (b3.mono B0.out.size))
  clear T b3 d0 d1 d2
  obtain ⟨a3, c3, rfl, hc3, hm3⟩ := ratsAt_form r3
  have T := spec_vecCopy (fun f => ok f.neg f.mag f.den = true) HC _ _ w3 r3 HL9.out HE.out
  go_wp2_with fail
  refine T.mono ?_
  rintro e w4 ⟨u4, x4, rfl, o4, b4⟩
  go_wp2
  go_ret
  exact ⟨_, _, rfl, o4.base B0.out.size, B0.out.trans (b4.mono B0.out.size)⟩
theorem ownR_none (w : World) (B : Nat) : OwnR w B (.slice none 0 0) [] (.slice none 0 0) [] := ⟨OwnI.nil _ _, OwnI.nil _ _, fun g g' h _ => by simp [Value.ownBlock] at h⟩
theorem cell_end {w wn : World} {p B : Nat} {t : TypeId} {b b' : Bool} {v d u e : Value} {zs ds : List Int} (hB : Below w.heap.size w wn) (D : B3 wn p t (.bool b) v d) (ho : OwnR wn B u zs e ds) (ht : t ≠ 3) (h1 : w.heap.size ≤ B) (h2 : w.heap.size ≤ p) (y z : Value) :
    OwnR (((wn.setCell ⟨p, 0, none⟩ (.bool b')).setCell ⟨p, 1, none⟩ y).setCell ⟨p, 2, none⟩ z) w.heap.size u zs e ds ∧ Below w.heap.size w (((wn.setCell ⟨p, 0, none⟩ (.bool b')).setCell ⟨p, 1, none⟩ y).setCell ⟨p, 2, none⟩ z) :=
  ⟨(ho.set3 D.rx ht y z).base h1, ((hB.setCell h2 _).setCell h2 _).setCell h2 _⟩

set_option maxRecDepth 100000 in
set_option maxHeartbeats 1000000 in
theorem spec_at (r : Int) (C i k n : Nat) (a : Option Addr) (cap : Nat) (L : List Fr) (w : World) (h : RatsAt w (.slice a n cap) L) (hi : i * C + k < n) (hn : n ≤ 576) (hC : C ≤ 24) (hi2 : i ≤ 24) (hlt : i * C + k < L.length) :
    Calls Try.prog 68 #[.agg #[.int .i64 r, .int .i64 (C : Int), .slice a n cap], .int .i64 (i : Int), .int .i64 (k : Int)] w fun e w' => ∃ x y, e = .returned (.agg #[.bool (L[i * C + k]'hlt).neg, x, y]) ∧ RowR w' x (L[i * C + k]'hlt).mag y (L[i * C + k]'hlt).den ∧ Below w.heap.size w w' := by
  obtain ⟨a0, c0, e, h1, h2, h3⟩ := h
  injection e with e1 e2 e3
  subst e1 e2 e3
  unfold maxLen at h2
  obtain ⟨l, hl⟩ : ∃ l, i * C = l := ⟨_, rfl⟩
  have p1 : (i : Int) * (C : Int) = (l : Int) := by rw [← hl, Int.natCast_mul]
  have p2 : (l : Int) + (k : Int) = ((l + k : Nat) : Int) := by omega
  obtain ⟨b, o, x, y, rfl, k0, k1, k2, hrr⟩ := h3 (i * C + k) hlt
  clear h3
  obtain ⟨f, hf⟩ : ∃ f, f = L[i * C + k]'hlt := ⟨_, rfl⟩
  rw [← hf] at k0 hrr ⊢
  clear hf
  obtain ⟨n, hnn⟩ : ∃ n, L.length = n := ⟨_, rfl⟩
  rw [hnn] at h1 hn hi ⊢
  clear hnn hlt
  rw [hl] at k0 k1 k2 hi
  clear hl
  obtain ⟨j, hj⟩ : ∃ j, l + k = j := ⟨_, rfl⟩
  rw [hj] at k0 k1 k2 hi p2
  have RR := Lib.hid hrr
  obtain ⟨a1, r1, a2, r2, rfl, rfl, hz1, hz2⟩ := rowR_len hrr
  clear hrr hj
  have BA := Lib.hid (((Below.refl w.heap.size w).alloc (Nat.le_refl _) (.cells #[.int .i64 r, .int .i64 (C : Int), .slice (some ⟨b, o, none⟩) n cap] 25)).alloc (by simp) (.cells #[.bool false, .slice none 0 0, .slice none 0 0] 42))
  obtain ⟨W0, hW0⟩ : ∃ x, x = (w.alloc (.cells #[.int .i64 r, .int .i64 (C : Int), .slice (some ⟨b, o, none⟩) n cap] 25)).alloc (.cells #[.bool false, .slice none 0 0, .slice none 0 0] 42) := ⟨_, rfl⟩
  have D := Lib.hid (show B3 W0 w.heap.size 25 (.int .i64 r) (.int .i64 (C : Int)) (.slice (some ⟨b, o, none⟩) n cap) by rw [hW0]; exact (B3.new _ _ _ _ _).alloc _)
  have Z := Lib.hid (show B3 W0 (w.heap.size + 1) 42 (.bool false) (.slice none 0 0) (.slice none 0 0) by rw [hW0]; exact b3_at (B3.new _ _ _ _ _) (by simp))
  rw [← hW0] at BA
  have HW := Lib.hid hW0
  clear hW0
  have c0 := (BA.out.cell (World.block_lt_of_cell? w _ k0)).trans k0
  have c1 := (BA.out.cell (World.block_lt_of_cell? w _ k1)).trans k1
  have c2 := (BA.out.cell (World.block_lt_of_cell? w _ k2)).trans k2
  clear k0 k1 k2
  have e2 := Lib.hid (((BA.out.setCell (p := ⟨w.heap.size + 1, 0, none⟩) (by simp) (.bool f.neg)).setCell (p := ⟨w.heap.size + 1, 1, none⟩) (by simp) (.slice a1 f.mag.length r1)).setCell (p := ⟨w.heap.size + 1, 2, none⟩) (by simp) (.slice a2 f.den.length r2))
  have D8 := Z.out.set3 (.bool f.neg) (.slice a1 f.mag.length r1) (.slice a2 f.den.length r2)
  have hc0 := D8.c0; have hc1 := D8.c1; have hc2 := D8.c2
  clear D8
  have d0 := D.out.c0
  have d1 := D.out.c1
  have d2 := D.out.c2
  have z0 := Z.out.c0
  have z1 := Z.out.c1
  have z2 := Z.out.c2
  have y0 := Z.out.f 0
  have y1 := Z.out.f 1
  have y2 := Z.out.f 2
  go_enter Try.func68, Try.ntmps68
  go_wp2_with (rw [← HW.out])
  exact bodyPost_ret (v := .agg #[.bool f.neg, .slice a1 f.mag.length r1, .slice a2 f.den.length r2]) (by simp [results, Try.results68, go_sem, hc0, hc1, hc2]) rfl ⟨_, _, rfl, RR.out.below e2.out, e2.out⟩

set_option maxRecDepth 100000 in
set_option maxHeartbeats 1000000 in
theorem spec_cellAt (ok : Bool → List Int → List Int → Bool)
    (HOK : ∀ b v zs d ds w, RowR w v zs d ds → Calls Try.prog 61 #[.agg #[.bool b, v, d]] w fun r w' => r = .returned (.bool (ok b zs ds)) ∧ Below w.heap.size w w')
    (HC : ∀ (f : Fr), ok f.neg f.mag f.den = true → ∀ v d w, RowR w v f.mag d f.den → Calls Try.prog 67 #[.agg #[.bool f.neg, v, d]] w fun r w' => ∃ x y, r = .returned (.agg #[.bool f.neg, x, y]) ∧ OwnR w' w.heap.size x f.mag y f.den ∧ Below w.heap.size w w')
    (r c i k : Int) (v : Value) (L : List Fr) (w : World) (h : RatsAt w v L) (hi : -9223372036854775808 ≤ i ∧ i ≤ 9223372036854775807) (hk : -9223372036854775808 ≤ k ∧ k ≤ 9223372036854775807) :
    Calls Try.prog 36 #[.agg #[.int .i64 r, .int .i64 c, v], .int .i64 i, .int .i64 k] w fun e w' => ∃ x y, e = .returned (.agg #[.bool (cellF ok r c L i k).neg, x, y]) ∧ OwnR w' w.heap.size x (cellF ok r c L i k).mag y (cellF ok r c L i k).den ∧ Below w.heap.size w w' := by
  obtain ⟨a, cap, rfl, hc, hm, hr⟩ := h
  have HR := Lib.hid (show RatsAt w (.slice a L.length cap) L from ⟨a, cap, rfl, hc, hm, hr⟩)
  unfold maxLen at hm
  clear hr
  obtain ⟨n, hnn⟩ : ∃ n, L.length = n := ⟨_, rfl⟩
  rw [hnn] at hc HR ⊢
  have HN := Lib.hid hnn
  clear hnn
  cases q0 : matB ok r c L with
  | false =>
    have e0 : cellF ok r c L i k = Fr.zero := by unfold cellF rowOk; rw [q0]; rfl
    rw [e0]
    clear e0
    go_enter Try.func36, Try.ntmps36
    go_wp2_with fail
    obtain ⟨W0, hW0⟩ : ∃ x, x = (w.alloc (.cells #[.int .i64 r, .int .i64 c, .slice a n cap] 25)).alloc (.cells #[.bool false, .slice none 0 0, .slice none 0 0] 42) := ⟨_, rfl⟩
    have D := Lib.hid (show B3 W0 w.heap.size 25 (.int .i64 r) (.int .i64 c) (.slice a n cap) by rw [hW0]; exact (B3.new _ _ _ _ _).alloc _)
    have Z := Lib.hid (show B3 W0 (w.heap.size + 1) 42 (.bool false) (.slice none 0 0) (.slice none 0 0) by rw [hW0]; exact b3_at (B3.new _ _ _ _ _) (by simp))
    have B0 := Lib.hid (show Below w.heap.size w W0 by rw [hW0]; exact ((Below.refl _ _).alloc (Nat.le_refl _) _).alloc (by simp) _)
    rw [← hW0]
    clear hW0
    have d0 := D.out.c0
    have d1 := D.out.c1
    have d2 := D.out.c2
    try go_wp2_with fail
    have T := spec_matrixOk ok HOK r c _ L W0 (HR.out.below B0.out)
    rw [q0] at T
    refine T.mono ?_
    rintro e w1 ⟨rfl, b1⟩
    replace D := Lib.hid (D.out.below b1)
    replace Z := Lib.hid (Z.out.below b1)
    replace B0 := Lib.hid (B0.out.trans (b1.mono B0.out.size))
    clear b1 T d0 d1 d2
    have DZ := Z.out
    have z0 := DZ.c0
    have z1 := DZ.c1
    have z2 := DZ.c2
    have y0 := DZ.f 0
    have y1 := DZ.f 1
    have y2 := DZ.f 2
    obtain ⟨e1, e2⟩ := cell_end B0.out DZ (ownR_none _ w.heap.size) (by decide) (Nat.le_refl _) (Nat.le_succ _) (b' := false) (.slice none 0 0) (.slice none 0 0)
    have D8 := DZ.set3 (.bool false) (.slice none 0 0) (.slice none 0 0)
    have hc0 := D8.c0; have hc1 := D8.c1; have hc2 := D8.c2
    clear D8
    go_wp2
    exact bodyPost_ret (v := .agg #[.bool false, (.slice none 0 0), (.slice none 0 0)]) (by simp [results, Try.results36, go_sem, hc0, hc1, hc2]) rfl ⟨_, _, rfl, e1, e2⟩
  | true =>
  obtain ⟨R, C, rfl, rfl, hR, hC, hLn, hRC, hE⟩ := matB_parts q0
  rw [HN.out] at hLn
  have HLN := Lib.hid hLn
  have hn9 : n ≤ 576 := by omega
  clear hLn hRC
  cases q1 : inB i ((R : Int) - 1) with
  | false =>
    have e0 : cellF ok R C L i k = Fr.zero := by unfold cellF rowOk; rw [q0, q1]; rfl
    rw [e0]
    clear e0
    have p1 : (decide (0 ≤ i) && decide (i ≤ (R : Int) - 1)) = false := q1
    go_enter Try.func36, Try.ntmps36
    go_wp2_with fail
    obtain ⟨W0, hW0⟩ : ∃ x, x = (w.alloc (.cells #[.int .i64 (R : Int), .int .i64 (C : Int), .slice a n cap] 25)).alloc (.cells #[.bool false, .slice none 0 0, .slice none 0 0] 42) := ⟨_, rfl⟩
    have D := Lib.hid (show B3 W0 w.heap.size 25 (.int .i64 (R : Int)) (.int .i64 (C : Int)) (.slice a n cap) by rw [hW0]; exact (B3.new _ _ _ _ _).alloc _)
    have Z := Lib.hid (show B3 W0 (w.heap.size + 1) 42 (.bool false) (.slice none 0 0) (.slice none 0 0) by rw [hW0]; exact b3_at (B3.new _ _ _ _ _) (by simp))
    have B0 := Lib.hid (show Below w.heap.size w W0 by rw [hW0]; exact ((Below.refl _ _).alloc (Nat.le_refl _) _).alloc (by simp) _)
    rw [← hW0]
    clear hW0
    have d0 := D.out.c0
    have d1 := D.out.c1
    have d2 := D.out.c2
    try go_wp2_with fail
    have T := spec_matrixOk ok HOK R C _ L W0 (HR.out.below B0.out)
    rw [q0] at T
    refine T.mono ?_
    rintro e w1 ⟨rfl, b1⟩
    replace D := Lib.hid (D.out.below b1)
    replace Z := Lib.hid (Z.out.below b1)
    replace B0 := Lib.hid (B0.out.trans (b1.mono B0.out.size))
    clear b1 T d0 d1 d2
    have d0 := D.out.c0
    have d1 := D.out.c1
    have d2 := D.out.c2
    go_wp2_with fail
    refine (spec_in _ _ _ _).mono ?_
    rw [p1]
    rintro e w' ⟨rfl, h9⟩
    replace h9 := h9.symm
    subst h9
    clear d0 d1 d2
    have DZ := Z.out
    have z0 := DZ.c0
    have z1 := DZ.c1
    have z2 := DZ.c2
    have y0 := DZ.f 0
    have y1 := DZ.f 1
    have y2 := DZ.f 2
    obtain ⟨e1, e2⟩ := cell_end B0.out DZ (ownR_none _ w.heap.size) (by decide) (Nat.le_refl _) (Nat.le_succ _) (b' := false) (.slice none 0 0) (.slice none 0 0)
    have D8 := DZ.set3 (.bool false) (.slice none 0 0) (.slice none 0 0)
    have hc0 := D8.c0; have hc1 := D8.c1; have hc2 := D8.c2
    clear D8
    go_wp2
    exact bodyPost_ret (v := .agg #[.bool false, (.slice none 0 0), (.slice none 0 0)]) (by simp [results, Try.results36, go_sem, hc0, hc1, hc2]) rfl ⟨_, _, rfl, e1, e2⟩
  | true =>
  have p1 : (decide (0 ≤ i) && decide (i ≤ (R : Int) - 1)) = true := q1
  cases q2 : inB k ((C : Int) - 1) with
  | false =>
    have e0 : cellF ok R C L i k = Fr.zero := by unfold cellF rowOk; rw [q0, q1, q2]; rfl
    rw [e0]
    clear e0
    have p2 : (decide (0 ≤ k) && decide (k ≤ (C : Int) - 1)) = false := q2
    go_enter Try.func36, Try.ntmps36
    go_wp2_with fail
    obtain ⟨W0, hW0⟩ : ∃ x, x = (w.alloc (.cells #[.int .i64 (R : Int), .int .i64 (C : Int), .slice a n cap] 25)).alloc (.cells #[.bool false, .slice none 0 0, .slice none 0 0] 42) := ⟨_, rfl⟩
    have D := Lib.hid (show B3 W0 w.heap.size 25 (.int .i64 (R : Int)) (.int .i64 (C : Int)) (.slice a n cap) by rw [hW0]; exact (B3.new _ _ _ _ _).alloc _)
    have Z := Lib.hid (show B3 W0 (w.heap.size + 1) 42 (.bool false) (.slice none 0 0) (.slice none 0 0) by rw [hW0]; exact b3_at (B3.new _ _ _ _ _) (by simp))
    have B0 := Lib.hid (show Below w.heap.size w W0 by rw [hW0]; exact ((Below.refl _ _).alloc (Nat.le_refl _) _).alloc (by simp) _)
    rw [← hW0]
    clear hW0
    have d0 := D.out.c0
    have d1 := D.out.c1
    have d2 := D.out.c2
    try go_wp2_with fail
    have T := spec_matrixOk ok HOK R C _ L W0 (HR.out.below B0.out)
    rw [q0] at T
    refine T.mono ?_
    rintro e w1 ⟨rfl, b1⟩
    replace D := Lib.hid (D.out.below b1)
    replace Z := Lib.hid (Z.out.below b1)
    replace B0 := Lib.hid (B0.out.trans (b1.mono B0.out.size))
    clear b1 T d0 d1 d2
    have d0 := D.out.c0
    have d1 := D.out.c1
    have d2 := D.out.c2
    go_wp2_with fail
    refine (spec_in _ _ _ _).mono ?_
    rw [p1]
    rintro e w' ⟨rfl, h9⟩
    replace h9 := h9.symm
    subst h9
    clear d0 d1 d2
    have d0 := D.out.c0
    have d1 := D.out.c1
    have d2 := D.out.c2
    go_wp2_with fail
    refine (spec_in _ _ _ _).mono ?_
    rw [p2]
    rintro e w' ⟨rfl, h9⟩
    replace h9 := h9.symm
    subst h9
    clear d0 d1 d2
    have DZ := Z.out
    have z0 := DZ.c0
    have z1 := DZ.c1
    have z2 := DZ.c2
    have y0 := DZ.f 0
    have y1 := DZ.f 1
    have y2 := DZ.f 2
    obtain ⟨e1, e2⟩ := cell_end B0.out DZ (ownR_none _ w.heap.size) (by decide) (Nat.le_refl _) (Nat.le_succ _) (b' := false) (.slice none 0 0) (.slice none 0 0)
    have D8 := DZ.set3 (.bool false) (.slice none 0 0) (.slice none 0 0)
    have hc0 := D8.c0; have hc1 := D8.c1; have hc2 := D8.c2
    clear D8
    go_wp2
    exact bodyPost_ret (v := .agg #[.bool false, (.slice none 0 0), (.slice none 0 0)]) (by simp [results, Try.results36, go_sem, hc0, hc1, hc2]) rfl ⟨_, _, rfl, e1, e2⟩
  | true =>
  have p2 : (decide (0 ≤ k) && decide (k ≤ (C : Int) - 1)) = true := q2
  obtain ⟨hi0, hi1⟩ := inB_iff.1 q1
  obtain ⟨hk0, hk1⟩ := inB_iff.1 q2
  obtain ⟨I, rfl⟩ : ∃ a : Nat, i = a := ⟨i.toNat, by omega⟩
  obtain ⟨K, rfl⟩ : ∃ a : Nat, k = a := ⟨k.toNat, by omega⟩
  have hin : I * C + K < n := by have := row_in (C := C) (show I < R by omega); rw [HLN.out]; omega
  have hlt : I * C + K < L.length := by rw [HN.out]; exact hin
  have e0 : cellF ok R C L I K = L[I * C + K]'hlt := by
    unfold cellF rowOk; rw [q0, q1, q2]
    simp only [Bool.and_true, ite_true, ← Int.natCast_mul, ← Int.natCast_add, Int.toNat_natCast, List.getElem?_eq_getElem hlt, Option.getD_some]
  have HSR := Lib.hid (fun W (hW : Below w.heap.size w W) => spec_at (R : Int) C I K n a cap L W (HR.out.below hW) hin (by omega) hC (by omega) hlt)
  have HE := Lib.hid (hE _ hlt)
  rw [e0]
  clear e0 hE
  obtain ⟨f, hf⟩ : ∃ f, f = L[I * C + K]'hlt := ⟨_, rfl⟩
  rw [← hf] at HSR HE ⊢
  clear hf
  go_enter Try.func36, Try.ntmps36
  go_wp2_with fail
  obtain ⟨W0, hW0⟩ : ∃ x, x = (w.alloc (.cells #[.int .i64 (R : Int), .int .i64 (C : Int), .slice a n cap] 25)).alloc (.cells #[.bool false, .slice none 0 0, .slice none 0 0] 42) := ⟨_, rfl⟩
  have D := Lib.hid (show B3 W0 w.heap.size 25 (.int .i64 (R : Int)) (.int .i64 (C : Int)) (.slice a n cap) by rw [hW0]; exact (B3.new _ _ _ _ _).alloc _)
  have Z := Lib.hid (show B3 W0 (w.heap.size + 1) 42 (.bool false) (.slice none 0 0) (.slice none 0 0) by rw [hW0]; exact b3_at (B3.new _ _ _ _ _) (by simp))
  have B0 := Lib.hid (show Below w.heap.size w W0 by rw [hW0]; exact ((Below.refl _ _).alloc (Nat.le_refl _) _).alloc (by simp) _)
  rw [← hW0]
  clear hW0
  have d0 := D.out.c0
  have d1 := D.out.c1
  have d2 := D.out.c2
  try go_wp2_with fail
  have T := spec_matrixOk ok HOK R C _ L W0 (HR.out.below B0.out)
  rw [q0] at T
  refine T.mono ?_
  rintro e w1 ⟨rfl, b1⟩
  replace D := Lib.hid (D.out.below b1)
  replace Z := Lib.hid (Z.out.below b1)
  replace B0 := Lib.hid (B0.out.trans (b1.mono B0.out.size))
  clear b1 T d0 d1 d2
  have d0 := D.out.c0
  have d1 := D.out.c1
  have d2 := D.out.c2
  go_wp2_with fail
  refine (spec_in _ _ _ _).mono ?_
  rw [p1]
  rintro e w' ⟨rfl, h9⟩
  replace h9 := h9.symm
  subst h9
  clear d0 d1 d2
  have d0 := D.out.c0
  have d1 := D.out.c1
  have d2 := D.out.c2
  go_wp2_with fail
  refine (spec_in _ _ _ _).mono ?_
  rw [p2]
  rintro e w' ⟨rfl, h9⟩
  replace h9 := h9.symm
  subst h9
  clear d0 d1 d2
  have d0 := D.out.c0
  have d1 := D.out.c1
  have d2 := D.out.c2
  have T := HSR.out _ B0.out
  go_wp2_with fail
  refine T.mono ?_
  rintro e w3 ⟨x3, y3, rfl, r3, b3⟩
  replace B0 := Lib.hid (B0.out.trans (b3.mono B0.out.size))
  replace Z := Lib.hid (Z.out.below b3)
  clear T b3 d0 d1 d2
  have RR := Lib.hid r3
  obtain ⟨a1, r1, a2, r2, rfl, rfl, hz1, hz2⟩ := rowR_len r3
  clear r3
  have T := HC f HE.out _ _ w3 RR.out
  go_wp2_with fail
  refine T.mono ?_
  rintro e w4 ⟨x4, y4, rfl, o4, b4⟩
  obtain ⟨a_r, c_r, e_r, f_r, rfl, rfl⟩ := o4.slices
  replace Z := Lib.hid (Z.out.below b4)
  have hps := B0.out.size
  replace B0 := Lib.hid (B0.out.trans (b4.mono B0.out.size))
  have DZ := Z.out
  have z0 := DZ.c0
  have z1 := DZ.c1
  have z2 := DZ.c2
  have y0 := DZ.f 0
  have y1 := DZ.f 1
  have y2 := DZ.f 2
  obtain ⟨e1, e2⟩ := cell_end B0.out DZ o4 (by decide) hps (Nat.le_succ _) (b' := f.neg) (.slice a_r f.mag.length c_r) (.slice e_r f.den.length f_r)
  have D8 := DZ.set3 (.bool f.neg) (.slice a_r f.mag.length c_r) (.slice e_r f.den.length f_r)
  have hc0 := D8.c0; have hc1 := D8.c1; have hc2 := D8.c2
  clear D8
  go_wp2
  exact bodyPost_ret (v := .agg #[.bool f.neg, (.slice a_r f.mag.length c_r), (.slice e_r f.den.length f_r)]) (by simp [results, Try.results36, go_sem, hc0, hc1, hc2]) rfl ⟨_, _, rfl, e1, e2⟩

end Go.Proofs.Ytojklmckjebplaa

/-! MatTr -/
namespace Go.Proofs.Ytojklmckjebplaa
set_option maxRecDepth 100000
set_option linter.unusedVariables false
set_option linter.unusedSimpArgs false
open Go.RowKit Go.WideShapes Go.ChangeShapes
set_option linter.unusedVariables false
set_option linter.unusedSimpArgs false
/-- The element in row i and column k of a list that holds rows of C elements. -/
def elM (L : List Fr) (C i k : Nat) : Fr := L[i * C + k]?.getD Fr.zero
def trC (L : List Fr) (C k R : Nat) : List Fr := (List.range R).map (fun i => elM L C i k)
def trM (L : List Fr) (R C K : Nat) : List Fr := (List.range K).flatMap (fun k => trC L C k R)
theorem trC_succ (L : List Fr) (C k R : Nat) : trC L C k (R + 1) = trC L C k R ++ [elM L C R k] := by unfold trC; rw [List.range_succ, List.map_append]; rfl
theorem trM_succ (L : List Fr) (R C K : Nat) : trM L R C (K + 1) = trM L R C K ++ trC L C K R := by unfold trM; rw [List.range_succ, List.flatMap_append]; simp
theorem trC_len (L : List Fr) (C k R : Nat) : (trC L C k R).length = R := by unfold trC; simp
theorem trM_len (L : List Fr) (R C K : Nat) : (trM L R C K).length = K * R := by
  induction K with
  | zero => simp [trM]
  | succ K ih => rw [trM_succ, List.length_append, ih, trC_len, Nat.add_mul, Nat.one_mul]
theorem el_at {L : List Fr} {C i k : Nat} (h : i * C + k < L.length) : elM L C i k = L[i * C + k]'h := by unfold elM; rw [List.getElem?_eq_getElem h, Option.getD_some]

theorem B3.far {w : World} {p q j : Nat} {t : TypeId} {x y z : Value} (h : B3 w p t x y z) (hne : p ≠ q) (u : Value) : B3 (w.setCell ⟨q, j, none⟩ u) p t x y z := h.keptK (kept_set w q j u) hne
theorem B3.grown {w w' : World} {p B : Nat} {t : TypeId} {x y z v : Value} {L : List Fr} {xs : List (Value × Value)} (h : B3 w p t x y z) (hv : OwnV w B v L xs) (h1 : t ≠ 42) (h2 : t ≠ 3) (hg : w.grownBy w' v.ownBlock) : B3 w' p t x y z :=
  h.keptK (Kept.of_grown hg) (fun e => hv.not_b3 h h1 h2 (.inl e))

set_option maxRecDepth 100000 in
set_option maxHeartbeats 2000000 in
theorem spec_transposed (Q : Fr → Prop)
    (HC : ∀ (f : Fr), Q f → ∀ v d w, RowR w v f.mag d f.den → Calls Try.prog 67 #[.agg #[.bool f.neg, v, d]] w fun r w' => ∃ x y, r = .returned (.agg #[.bool f.neg, x, y]) ∧ OwnR w' w.heap.size x f.mag y f.den ∧ Below w.heap.size w w')
    (R C n : Nat) (a : Option Addr) (cap : Nat) (L : List Fr) (w : World) (h : RatsAt w (.slice a n cap) L) (hR : R ≤ 24) (hC : C ≤ 24) (hn : n ≤ 576) (hLn : L.length = n) (hRC : n = R * C)
    (hE : ∀ k (hk : k < L.length), Q (L[k]'hk)) :
    Calls Try.prog 75 #[.agg #[.int .i64 (R : Int), .int .i64 (C : Int), .slice a n cap]] w fun e w' => ∃ u xs, e = .returned (.agg #[.int .i64 (C : Int), .int .i64 (R : Int), u]) ∧ OwnV w' w.heap.size u (trM L R C C) xs ∧ Below w.heap.size w w' := by
  have HR := Lib.hid h
  have HL := Lib.hid hLn
  have HRC := Lib.hid hRC
  have HE := Lib.hid hE
  clear h hLn hRC hE
  obtain ⟨Z, hZ⟩ : ∃ x, x = trM L R C C := ⟨_, rfl⟩
  rw [← hZ]
  have HZ := Lib.hid hZ
  clear hZ
  go_enter Try.func75, Try.ntmps75
  go_wp2_with fail
  obtain ⟨W0, hW0⟩ : ∃ x, x = ((w.alloc (.cells #[.int .i64 (R : Int), .int .i64 (C : Int), .slice a n cap] 25)).alloc (.cells #[.int .i64 0, .int .i64 0, .slice none 0 0] 25)).alloc (.cells #[.int .i64 (C : Int), .int .i64 (R : Int), .slice none 0 0] 25) := ⟨_, rfl⟩
  have M0 := Lib.hid (show B3 W0 w.heap.size 25 (.int .i64 (R : Int)) (.int .i64 (C : Int)) (.slice a n cap) by rw [hW0]; exact ((B3.new _ _ _ _ _).alloc _).alloc _)
  have Y0 := Lib.hid (show B3 W0 (w.heap.size + 1) 25 (.int .i64 0) (.int .i64 0) (.slice none 0 0) by rw [hW0]; exact b3_at ((B3.new _ _ _ _ _).alloc _) (by simp))
  have O0 := Lib.hid (show B3 W0 (w.heap.size + 1 + 1) 25 (.int .i64 (C : Int)) (.int .i64 (R : Int)) (.slice none 0 0) by rw [hW0]; exact b3_at (B3.new _ _ _ _ _) (by simp))
  have B0 := Lib.hid (show Below w.heap.size w W0 by rw [hW0]; exact (((Below.refl _ _).alloc (Nat.le_refl _) _).alloc (by simp) _).alloc (by simp; omega) _)
  rw [← hW0]
  clear hW0
  go_loopw [4] (fun kv wr => ∃ (k : Nat) (vo : Value) (xs : List (Value × Value)), k ≤ C ∧ kv = .int .i64 k ∧ Hid (B3 wr w.heap.size 25 (.int .i64 (R : Int)) (.int .i64 (C : Int)) (.slice a n cap)) ∧ Hid (B3 wr (w.heap.size + 1) 25 (.int .i64 0) (.int .i64 0) (.slice none 0 0)) ∧ Hid (B3 wr (w.heap.size + 1 + 1) 25 (.int .i64 (C : Int)) (.int .i64 (R : Int)) vo) ∧ Hid (OwnV wr w.heap.size vo (trM L R C k) xs) ∧ Hid (Below w.heap.size w wr)) (fun kv _ => C - (intOf kv).toNat)
  case atStart => exact ⟨0, .slice none 0 0, [], Nat.zero_le _, rfl, M0, Y0, O0, Lib.hid (OwnV.nil _ _), B0⟩
  case round =>
    clear M0 Y0 O0 B0
    obtain ⟨k, vo, xs, hk, rfl, M, Y, O, V, B⟩ := hrel
    by_cases hlt : k < C
    · have m0 := M.out.c0
      have m1 := M.out.c1
      go_wp2_with fail
      clear m0 m1
      go_loopw [5] (fun iv wi => ∃ (i : Nat) (vo : Value) (xs : List (Value × Value)), i ≤ R ∧ iv = .int .i64 i ∧ Hid (B3 wi w.heap.size 25 (.int .i64 (R : Int)) (.int .i64 (C : Int)) (.slice a n cap)) ∧ Hid (B3 wi (w.heap.size + 1) 25 (.int .i64 0) (.int .i64 0) (.slice none 0 0)) ∧ Hid (B3 wi (w.heap.size + 1 + 1) 25 (.int .i64 (C : Int)) (.int .i64 (R : Int)) vo) ∧ Hid (OwnV wi w.heap.size vo (trM L R C k ++ trC L C k i) xs) ∧ Hid (Below w.heap.size w wi)) (fun iv _ => R - (intOf iv).toNat)
      case atStart => exact ⟨0, vo, xs, Nat.zero_le _, rfl, M, Y, O, Lib.hid (by rw [show trC L C k 0 = [] from rfl, List.append_nil]; exact V.out), B⟩
      case round =>
        clear M Y O V B xs vo
        obtain ⟨i, vo, xs, hi, rfl, M, Y, O, V, B⟩ := hrel
        have m0 := M.out.c0
        have m1 := M.out.c1
        have m2 := M.out.c2
        by_cases hli : i < R
        · have y2 := O.out.c2
          have y3 := O.out.f 2
          have hin : i * C + k < n := by have := row_in (C := C) hli; rw [HRC.out]; omega
          have hltL : i * C + k < L.length := by rw [HL.out]; exact hin
          have HQ := Lib.hid (HE.out _ hltL)
          have HEL := Lib.hid (el_at hltL)
          have HAT := Lib.hid (fun W (hW : Below wr.heap.size wr W) => spec_at (R : Int) C i k n a cap L W (HR.out.below (B.out.trans (hW.mono B.out.size))) hin hn hC (by omega) hltL)
          obtain ⟨f, hf⟩ : ∃ f, f = L[i * C + k]'hltL := ⟨_, rfl⟩
          rw [← hf] at HAT HQ HEL
          obtain ⟨P, hP⟩ : ∃ P, P = trM L R C k ++ trC L C k i := ⟨_, rfl⟩
          have HP := Lib.hid (show trM L R C k ++ trC L C k (i + 1) = P ++ [f] by rw [trC_succ, HEL.out, hP, List.append_assoc])
          have HPL := Lib.hid (show P.length ≤ 100000 by rw [hP, List.length_append, trM_len, trC_len]; have := Nat.mul_le_mul (show k ≤ 24 by omega) hR; omega)
          rw [← hP] at V
          clear hf hP hin hltL
          replace HAT := Lib.hid (fun W (hW : Below wr.heap.size wr W) => (HAT.out W hW).mono (R' := fun e w' => ∃ x y, e = .returned (.agg #[.bool f.neg, x, y]) ∧ RowR w' x f.mag y f.den ∧ Below wr.heap.size wr w') (fun e w' ⟨x, y, he, hr, hb⟩ => ⟨x, y, he, hr, hW.trans (hb.mono hW.size)⟩))
          have HCF := Lib.hid (fun W (hW : Below wr.heap.size wr W) v d (h : RowR W v f.mag d f.den) => (HC f HQ.out v d W h).mono (R' := fun e w' => ∃ x y, e = .returned (.agg #[.bool f.neg, x, y]) ∧ OwnR w' wr.heap.size x f.mag y f.den ∧ Below wr.heap.size wr w') (fun e w' ⟨x, y, he, hr, hb⟩ => ⟨x, y, he, hr.base hW.size, hW.trans (hb.mono hW.size)⟩))
          have HO := Lib.hid (fun W (hW : Below wr.heap.size wr W) => O.out.below hW)
          have HM := Lib.hid (fun W (hW : Below wr.heap.size wr W) => M.out.below hW)
          have BS := Lib.hid B.out.size
          have L9 := Lib.hid V.out.lt
          go_wp2_with fail
          go_region_law (first
            | (have hbb := bb_c.size; have lr := O_c.out.lt; refine step_append_rat rfl _ _ rfl w.heap.size vo P xs rfl (by first | with_reducible exact (V.out.below bb_c).alloc _ | with_reducible exact ((V.out.below bb_c).alloc _).drew | fail) HPL.out (by have := BS.out; simp; omega) _ _ rfl f _ _ (by first | exact World.alloc_heap_new _ _ | fail) (OwnR.base (O_c.out.alloc _) BS.out) (fun i hi r r' h1 h2 => by have h3 := (L9.out r (.inr ⟨_, List.getElem_mem hi, h1⟩)).2; have h4 := (lr r' h2).1; omega) (fun r h2 h1 => by have h3 := (L9.out r (.inl h1)).2; have h4 := (lr r h2).1; omega) ?_; intro v_n w_n o_n g_n l_n; have VV := (V.out.below bb_c).alloc (.cells #[.bool f.neg, .slice a_c f.mag.length c_c, .slice e_c f.den.length f_c] 42); have O5 := ((HO.out _ bb_c).alloc (.cells #[.bool f.neg, .slice a_c f.mag.length c_c, .slice e_c f.den.length f_c] 42)).grown VV (by decide) (by decide) g_n; have s2 := O5.c2; have s3 := O5.f 2; obtain ⟨g9, c9, hv9⟩ := o_n.slice; subst hv9; rw [show (P ++ [f]).length = P.length + 1 from by simp] at o_n ⊢)
            | (go_simp; go_at_call 68; refine (HAT.out _ (by first | with_reducible exact Below.refl _ _ | with_reducible exact (Below.refl _ _).drew | fail)).mono ?_; rintro e w_t ⟨x_t, y_t, rfl, r_t, bb_t⟩; have R_t := Lib.hid r_t; obtain ⟨a1, r1, a2, r2, rfl, rfl, hz1, hz2⟩ := rowR_len r_t; clear r_t; have Y9 := HO.out _ bb_t; have s0 := Y9.c0; have s1 := Y9.c1; have s2 := Y9.c2; have s3 := Y9.f 2; have X9 := HM.out _ bb_t; have t0 := X9.c0; have t1 := X9.c1; have t2 := X9.c2)
            | (go_simp; go_at_call 67; refine (HCF.out _ bb_t _ _ R_t.out).mono ?_; rintro e w_c ⟨x_c, y_c, rfl, o_c, bb_c⟩; obtain ⟨a_c, c_c, e_c, f_c, rfl, rfl⟩ := o_c.slices; have O_c := Lib.hid o_c; have q2 := ((HO.out _ bb_c).alloc (.cells #[.bool f.neg, .slice a_c f.mag.length c_c, .slice e_c f.den.length f_c] 42)).c2; have Y9 := HO.out _ bb_c; have s0 := Y9.c0; have s1 := Y9.c1; have s2 := Y9.c2; have s3 := Y9.f 2; have X9 := HM.out _ bb_c; have t0 := X9.c0; have t1 := X9.c1; have t2 := X9.c2)
            | fail)
          all_goals go_wp2_with fail
          all_goals exact ⟨⟨i + 1, _, _, by omega, by go_num, Lib.hid ((((HM.out _ bb_c).alloc _).grown VV (by decide) (by decide) g_n).far (by omega) _), Lib.hid ((((Y.out.below bb_c).alloc _).grown VV (by decide) (by decide) g_n).far (by omega) _), Lib.hid (O5.set2 _), Lib.hid (by rw [HP.out]; exact o_n.set_b3 O5 (by decide) (by decide) 2 _), Lib.hid ((((B.out.trans (bb_c.mono BS.out)).alloc (Nat.le_trans BS.out hbb) _).grown g_n (by have := BS.out; simp; omega) (fun q hq => (L9.out q (.inl hq)).1)).setCell (by simp; omega) _)⟩, by simp [intOf]; omega⟩
        · obtain rfl : i = R := by omega
          have V9 := Lib.hid (show OwnV wr w.heap.size vo (trM L i C (k + 1)) xs by rw [trM_succ]; exact V.out)
          go_wp2_with fail
          exact ⟨⟨k + 1, vo, xs, by omega, by go_num, M, Y, O, V9, B⟩, by simp [intOf]; omega⟩
    · obtain rfl : k = C := by omega
      have m1 := M.out.c1
      have y0 := O.out.c0
      have y1 := O.out.c1
      have y2 := O.out.c2
      have z0 := Y.out.c0
      have z1 := Y.out.c1
      have z2 := Y.out.c2
      have x0 := Y.out.f 0
      have x1 := Y.out.f 1
      have x2 := Y.out.f 2
      rw [← HZ.out] at V
      obtain ⟨g9, c9, rfl⟩ := V.out.slice
      have V9 := Lib.hid (V.out.set3_b3 Y.out (by decide) (by decide) (.int .i64 (k : Int)) (.int .i64 (R : Int)) (.slice g9 Z.length c9))
      have B9 := Lib.hid (((B.out.setCell (p := ⟨w.heap.size + 1, 0, none⟩) (by simp) (.int .i64 (k : Int))).setCell (p := ⟨w.heap.size + 1, 1, none⟩) (by simp) (.int .i64 (R : Int))).setCell (p := ⟨w.heap.size + 1, 2, none⟩) (by simp) (.slice g9 Z.length c9))
      have D8 := Y.out.set3 (.int .i64 (k : Int)) (.int .i64 (R : Int)) (.slice g9 Z.length c9)
      have hc0 := D8.c0; have hc1 := D8.c1; have hc2 := D8.c2
      clear D8
      go_wp2_with fail
      exact bodyPost_ret (v := .agg #[.int .i64 (k : Int), .int .i64 (R : Int), .slice g9 Z.length c9]) (by simp [results, Try.results75, go_sem, hc0, hc1, hc2]) rfl ⟨_, _, rfl, V9.out, B9.out⟩

def tpL (ok : Bool → List Int → List Int → Bool) (r c : Int) (L : List Fr) : List Fr := if matB ok r c L then trM L r.toNat c.toNat c.toNat else []
def tpR (ok : Bool → List Int → List Int → Bool) (r c : Int) (L : List Fr) : Int := if matB ok r c L then c else 0
def tpC (ok : Bool → List Int → List Int → Bool) (r c : Int) (L : List Fr) : Int := if matB ok r c L then r else 0
set_option maxRecDepth 100000 in
set_option maxHeartbeats 2000000 in
theorem spec_transpose (ok : Bool → List Int → List Int → Bool)
    (HOK : ∀ b v zs d ds w, RowR w v zs d ds → Calls Try.prog 61 #[.agg #[.bool b, v, d]] w fun r w' => r = .returned (.bool (ok b zs ds)) ∧ Below w.heap.size w w')
    (HC : ∀ (f : Fr), ok f.neg f.mag f.den = true → ∀ v d w, RowR w v f.mag d f.den → Calls Try.prog 67 #[.agg #[.bool f.neg, v, d]] w fun r w' => ∃ x y, r = .returned (.agg #[.bool f.neg, x, y]) ∧ OwnR w' w.heap.size x f.mag y f.den ∧ Below w.heap.size w w')
    (r c : Int) (v : Value) (L : List Fr) (w : World) (h : RatsAt w v L) :
    Calls Try.prog 44 #[.agg #[.int .i64 r, .int .i64 c, v]] w fun e w' => ∃ u xs, e = .returned (.agg #[.int .i64 (tpR ok r c L), .int .i64 (tpC ok r c L), u]) ∧ OwnV w' w.heap.size u (tpL ok r c L) xs ∧ Below w.heap.size w w' := by
  obtain ⟨a, cap, rfl, hc, hm, hr⟩ := h
  have HR := Lib.hid (show RatsAt w (.slice a L.length cap) L from ⟨a, cap, rfl, hc, hm, hr⟩)
  unfold maxLen at hm
  clear hr
  obtain ⟨n, hnn⟩ : ∃ n, L.length = n := ⟨_, rfl⟩
  rw [hnn] at hc HR ⊢
  have HN := Lib.hid hnn
  clear hnn
  cases q0 : matB ok r c L with
  | false =>
    have e0 : tpL ok r c L = [] ∧ tpR ok r c L = 0 ∧ tpC ok r c L = 0 := by unfold tpL tpR tpC; rw [q0]; exact ⟨rfl, rfl, rfl⟩
    rw [e0.1, e0.2.1, e0.2.2]
    clear e0
    go_enter Try.func44, Try.ntmps44
    go_wp2_with fail
    obtain ⟨W0, hW0⟩ : ∃ x, x = (w.alloc (.cells #[.int .i64 r, .int .i64 c, .slice a n cap] 25)).alloc (.cells #[.int .i64 0, .int .i64 0, .slice none 0 0] 25) := ⟨_, rfl⟩
    have D := Lib.hid (show B3 W0 w.heap.size 25 (.int .i64 r) (.int .i64 c) (.slice a n cap) by rw [hW0]; exact (B3.new _ _ _ _ _).alloc _)
    have Z := Lib.hid (show B3 W0 (w.heap.size + 1) 25 (.int .i64 0) (.int .i64 0) (.slice none 0 0) by rw [hW0]; exact b3_at (B3.new _ _ _ _ _) (by simp))
    have B0 := Lib.hid (show Below w.heap.size w W0 by rw [hW0]; exact ((Below.refl _ _).alloc (Nat.le_refl _) _).alloc (by simp) _)
    rw [← hW0]
    clear hW0
    try (have d0 := D.out.c0; have d1 := D.out.c1; have d2 := D.out.c2; go_wp2_with fail)
    have T := spec_matrixOk ok HOK r c _ L W0 (HR.out.below B0.out)
    rw [q0] at T
    refine T.mono ?_
    rintro e w1 ⟨rfl, b1⟩
    replace D := Lib.hid (D.out.below b1)
    replace Z := Lib.hid (Z.out.below b1)
    replace B0 := Lib.hid (B0.out.trans (b1.mono B0.out.size))
    clear b1 T
    have d0 := D.out.c0
    have d1 := D.out.c1
    have d2 := D.out.c2
    have z0 := Z.out.c0
    have z1 := Z.out.c1
    have z2 := Z.out.c2
    have x0 := Z.out.f 0
    have x1 := Z.out.f 1
    have x2 := Z.out.f 2
    have V9 := Lib.hid (OwnV.set3_b3 (OwnV.nil _ w.heap.size) Z.out (by decide) (by decide) (.int .i64 0) (.int .i64 0) (.slice none 0 0))
    have B9 := Lib.hid (((B0.out.setCell (p := ⟨w.heap.size + 1, 0, none⟩) (by simp) (.int .i64 0)).setCell (p := ⟨w.heap.size + 1, 1, none⟩) (by simp) (.int .i64 0)).setCell (p := ⟨w.heap.size + 1, 2, none⟩) (by simp) (.slice none 0 0))
    have D8 := Z.out.set3 (.int .i64 0) (.int .i64 0) (.slice none 0 0)
    have hc0 := D8.c0; have hc1 := D8.c1; have hc2 := D8.c2
    clear D8
    go_wp2_with fail
    exact bodyPost_ret (v := .agg #[(.int .i64 0), (.int .i64 0), (.slice none 0 0)]) (by simp [results, Try.results44, go_sem, hc0, hc1, hc2]) rfl ⟨_, _, rfl, V9.out, B9.out⟩
  | true =>
  obtain ⟨R, C, rfl, rfl, hR, hC, hLn, hRC, hE⟩ := matB_parts q0
  have e0 : tpL ok R C L = trM L R C C ∧ tpR ok R C L = C ∧ tpC ok R C L = R := by unfold tpL tpR tpC; rw [q0]; exact ⟨rfl, rfl, rfl⟩
  rw [e0.1, e0.2.1, e0.2.2]
  clear e0
  have HT := Lib.hid (fun W (hW : Below w.heap.size w W) => spec_transposed (fun f => ok f.neg f.mag f.den = true) HC R C n a cap L W (HR.out.below hW) hR hC (by rw [← HN.out]; omega) HN.out (by rw [← HN.out]; exact hLn) hE)
  clear hLn hRC hE
  obtain ⟨P, hP⟩ : ∃ P, P = trM L R C C := ⟨_, rfl⟩
  rw [← hP] at HT ⊢
  clear hP
  go_enter Try.func44, Try.ntmps44
  go_wp2_with fail
  obtain ⟨W0, hW0⟩ : ∃ x, x = (w.alloc (.cells #[.int .i64 (R : Int), .int .i64 (C : Int), .slice a n cap] 25)).alloc (.cells #[.int .i64 0, .int .i64 0, .slice none 0 0] 25) := ⟨_, rfl⟩
  have D := Lib.hid (show B3 W0 w.heap.size 25 (.int .i64 (R : Int)) (.int .i64 (C : Int)) (.slice a n cap) by rw [hW0]; exact (B3.new _ _ _ _ _).alloc _)
  have Z := Lib.hid (show B3 W0 (w.heap.size + 1) 25 (.int .i64 0) (.int .i64 0) (.slice none 0 0) by rw [hW0]; exact b3_at (B3.new _ _ _ _ _) (by simp))
  have B0 := Lib.hid (show Below w.heap.size w W0 by rw [hW0]; exact ((Below.refl _ _).alloc (Nat.le_refl _) _).alloc (by simp) _)
  rw [← hW0]
  clear hW0
  try (have d0 := D.out.c0; have d1 := D.out.c1; have d2 := D.out.c2; go_wp2_with fail)
  have T := spec_matrixOk ok HOK R C _ L W0 (HR.out.below B0.out)
  rw [q0] at T
  refine T.mono ?_
  rintro e w1 ⟨rfl, b1⟩
  replace D := Lib.hid (D.out.below b1)
  replace Z := Lib.hid (Z.out.below b1)
  replace B0 := Lib.hid (B0.out.trans (b1.mono B0.out.size))
  clear b1 T
  have d0 := D.out.c0
  have d1 := D.out.c1
  have d2 := D.out.c2
  go_wp2_with fail
  refine (HT.out _ B0.out).mono ?_
  rintro e w3 ⟨u, xs, rfl, o3, b3⟩
  obtain ⟨a3, c3, rfl⟩ := o3.slice
  replace Z := Lib.hid (Z.out.below b3)
  have O3 := Lib.hid (o3.base B0.out.size)
  replace B0 := Lib.hid (B0.out.trans (b3.mono B0.out.size))
  clear b3 d0 d1 d2 o3
  have z0 := Z.out.c0
  have z1 := Z.out.c1
  have z2 := Z.out.c2
  have x0 := Z.out.f 0
  have x1 := Z.out.f 1
  have x2 := Z.out.f 2
  have V9 := Lib.hid (OwnV.set3_b3 O3.out Z.out (by decide) (by decide) (.int .i64 (C : Int)) (.int .i64 (R : Int)) (.slice a3 P.length c3))
  have B9 := Lib.hid (((B0.out.setCell (p := ⟨w.heap.size + 1, 0, none⟩) (by simp) (.int .i64 (C : Int))).setCell (p := ⟨w.heap.size + 1, 1, none⟩) (by simp) (.int .i64 (R : Int))).setCell (p := ⟨w.heap.size + 1, 2, none⟩) (by simp) (.slice a3 P.length c3))
  have D8 := Z.out.set3 (.int .i64 (C : Int)) (.int .i64 (R : Int)) (.slice a3 P.length c3)
  have hc0 := D8.c0; have hc1 := D8.c1; have hc2 := D8.c2
  clear D8
  go_wp2_with fail
  exact bodyPost_ret (v := .agg #[(.int .i64 (C : Int)), (.int .i64 (R : Int)), (.slice a3 P.length c3)]) (by simp [results, Try.results44, go_sem, hc0, hc1, hc2]) rfl ⟨_, _, rfl, V9.out, B9.out⟩

end Go.Proofs.Ytojklmckjebplaa

/-! MatCat -/
namespace Go.Proofs.Ytojklmckjebplaa
set_option maxRecDepth 100000
set_option linter.unusedVariables false
set_option linter.unusedSimpArgs false
open Go.RowKit Go.WideShapes Go.ChangeShapes
set_option linter.unusedVariables false
set_option linter.unusedSimpArgs false
theorem flat_app : ∀ (L : List Fr) (xs : List (Value × Value)) (M : List Fr) (ys : List (Value × Value)), xs.length = L.length → flat (L ++ M) (xs ++ ys) = flat L xs ++ flat M ys
  | [], [], _, _, _ => rfl
  | x :: L, q :: xs, M, ys, h => by simp only [List.cons_append, flat, flat_app L xs M ys (by simpa using h)]
theorem flat_one : ∀ (L : List Fr) (xs : List (Value × Value)), (∀ p ∈ xs, p.1.oneCell' = true ∧ p.2.oneCell' = true) → ∀ u ∈ flat L xs, u.oneCell' = true
  | x :: L, q :: xs, h, u, hu => by
    simp only [flat, List.mem_cons] at hu
    rcases hu with rfl | rfl | rfl | hu
    · rfl
    · exact (h q (List.mem_cons_self ..)).1
    · exact (h q (List.mem_cons_self ..)).2
    · exact flat_one L xs (fun p hp => h p (List.mem_cons_of_mem _ hp)) u hu
  | [], _, _, u, hu => by simp [flat] at hu
  | _ :: _, [], _, u, hu => by simp [flat] at hu
theorem OwnV.one {w : World} {B : Nat} {v : Value} {L : List Fr} {xs : List (Value × Value)} (h : OwnV w B v L xs) : ∀ u ∈ flat L xs, u.oneCell' = true :=
  flat_one L xs (fun p hp => by
    obtain ⟨i, hi, rfl⟩ := List.getElem_of_mem hp
    obtain ⟨a, c, e, f, h1, h2⟩ := (h.each i (by have := h.len; omega) hi).slices
    rw [h1, h2]; exact ⟨rfl, rfl⟩)
theorem OwnV.append {w w' : World} {B : Nat} {v v' u : Value} {L M : List Fr} {xs ys : List (Value × Value)} (h : OwnV w B v L xs) (h2 : OwnV w B u M ys)
    (hne : ∀ i (hi : i < xs.length) j (hj : j < ys.length) g g', ((xs[i]'hi).1.ownBlock = some g ∨ (xs[i]'hi).2.ownBlock = some g) → ((ys[j]'hj).1.ownBlock = some g' ∨ (ys[j]'hj).2.ownBlock = some g') → g ≠ g')
    (hnr : ∀ j (hj : j < ys.length) g, ((ys[j]'hj).1.ownBlock = some g ∨ (ys[j]'hj).2.ownBlock = some g) → v.ownBlock ≠ some g)
    (hg : w.grownBy w' v.ownBlock) (hr : w'.ownsRow B 42 3 v' (L.length + M.length) (flat L xs ++ flat M ys)) : OwnV w' B v' (L ++ M) (xs ++ ys) := by
  have hl := h.len
  have hl2 := h2.len
  refine ⟨by simp [hl, hl2], ?_, ?_, ?_⟩
  · rw [flat_app L xs M ys hl, List.length_append]; exact hr
  · intro i hi hi'
    by_cases hlt : i < L.length
    · have hlt' : i < xs.length := by omega
      simp only [List.getElem_append_left hlt, List.getElem_append_left hlt']
      exact (h.each i hlt hlt').kept (Kept.of_grown hg) (fun g e => h.ne_row i hlt' g e)
    · have h3 : i - L.length < M.length := by simp at hi; omega
      have h4 : i - xs.length < ys.length := by omega
      have e2 : (xs ++ ys)[i]'hi' = ys[i - xs.length]'h4 := List.getElem_append_right (by omega)
      have e3 : (L ++ M)[i]'hi = M[i - L.length]'h3 := List.getElem_append_right (by omega)
      rw [e2, e3]
      have := (h2.each (i - L.length) h3 (by omega)).kept (Kept.of_grown hg) (fun g e => hnr _ _ g e)
      simpa only [hl] using this
  · intro i j hi hj hij g g' e1 e2
    simp only [List.length_append] at hi hj
    by_cases h1 : i < xs.length
    · simp only [List.getElem_append_left h1] at e1
      by_cases h2' : j < xs.length
      · simp only [List.getElem_append_left h2'] at e2
        exact h.apart i j h1 h2' hij g g' e1 e2
      · rw [List.getElem_append_right (by omega)] at e2
        exact hne i h1 _ (by omega) g g' e1 e2
    · rw [List.getElem_append_right (by omega)] at e1
      by_cases h2' : j < xs.length
      · simp only [List.getElem_append_left h2'] at e2
        exact (hne j h2' _ (by omega) g' g e2 e1).symm
      · rw [List.getElem_append_right (by omega)] at e2
        exact h2.apart _ _ (by omega) (by omega) (by omega) g g' e1 e2

set_option maxRecDepth 100000 in
/-- append(out, list...) in a region that draws its order: the list holds an element at least -/
theorem step_append_rats {ops : Array Oper} {o : Oper} {a : Act} {K : Act → World → Prop} {Q : Exit → Act → World → Prop} {E : Prop} {w : World} (hgd : o.guard = none) (s x : Operand)
    (ho : o.op = .call { callee := .builtin .append, args := #[s, x], argTypes := #[23, 23] })
    (B : Nat) (v : Value) (L : List Fr) (xs : List (Value × Value)) (hs : a.eval s = v) (hown : OwnV w B v L xs) (hL : L.length ≤ 100000) (hB : B ≤ w.heap.size)
    (g m c : Nat) (hx : a.eval x = .slice (some ⟨g, 0, none⟩) m c) (M : List Fr) (ys : List (Value × Value)) (h2 : OwnV w B (.slice (some ⟨g, 0, none⟩) m c) M ys) (hm : 0 < m) (hm2 : m ≤ 1000)
    (hne : ∀ i (hi : i < xs.length) j (hj : j < ys.length) r r', ((xs[i]'hi).1.ownBlock = some r ∨ (xs[i]'hi).2.ownBlock = some r) → ((ys[j]'hj).1.ownBlock = some r' ∨ (ys[j]'hj).2.ownBlock = some r') → r ≠ r')
    (hnr : ∀ j (hj : j < ys.length) r, ((ys[j]'hj).1.ownBlock = some r ∨ (ys[j]'hj).2.ownBlock = some r) → v.ownBlock ≠ some r)
    (h : ∀ v' w', OwnV w' B v' (L ++ M) (xs ++ ys) → w.grownBy w' v.ownBlock → (∀ k, v'.ownBlock = some k → v.ownBlock = some k ∨ w.heap.size ≤ k) → K (a.put o.dst v') w') :
    if Region.wanted o (yielded ops a.tmps) = true then Oper.wp Try.prog o a w K Q else E := by
  obtain ⟨i0, hi, hz0, hz1, hz2⟩ := info_parts info_rat
  have hc := h2.count
  refine Go.step_append_lies w hgd s x 23 ho B 42 i0 _ 3 56 Try.underlying23 hi hz0 hz1 hz2 rfl (by decide) v L.length (flat L xs) hs hown.row ⟨g, 0, none⟩ m c
    (flat M ys) hx (by rw [flat_len M ys h2.len, hc]) (fun j u hj => by
      have hlt := (List.getElem?_eq_some_iff.1 hj).1
      rw [flat_len M ys h2.len] at hlt
      have hrow := h2.row
      rw [hc] at hrow
      have := hrow.cellAt j (by omega)
      rw [show (⟨g, 0, none⟩ : Addr).add j = ⟨g, j, none⟩ by simp [Addr.add]; omega]
      exact this.trans hj) h2.one hm (by unfold maxLen; omega) (by omega) hB w.heap.size rfl ?_
  intro g' cap w' hr hg hgg _
  exact h _ w' (hown.append h2 hne hnr hg (by rw [hc]; exact hr)) hg (fun k hk => by
    have e : g' = k := by simpa [Value.ownBlock] using hk
    subst e
    rcases hgg with e | e
    · exact .inl e
    · exact .inr (by omega))

set_option maxRecDepth 100000 in
/-- the same in a region that keeps its order; the list may be empty -/
theorem append_rats {ops : Array Oper} {rest : List Oper} {o : Oper} {a : Act} {Q : Exit → Act → World → Prop} {w : World} (hgd : o.guard = none) (s x : Operand)
    (ho : o.op = .call { callee := .builtin .append, args := #[s, x], argTypes := #[23, 23] })
    (B : Nat) (v : Value) (L : List Fr) (xs : List (Value × Value)) (hs : a.eval s = v) (hown : OwnV w B v L xs) (hL : L.length ≤ 100000) (hB : B ≤ w.heap.size)
    (g m c : Nat) (hx : a.eval x = .slice (some ⟨g, 0, none⟩) m c) (M : List Fr) (ys : List (Value × Value)) (h2 : OwnV w B (.slice (some ⟨g, 0, none⟩) m c) M ys) (hm2 : m ≤ 1000)
    (hne : ∀ i (hi : i < xs.length) j (hj : j < ys.length) r r', ((xs[i]'hi).1.ownBlock = some r ∨ (xs[i]'hi).2.ownBlock = some r) → ((ys[j]'hj).1.ownBlock = some r' ∨ (ys[j]'hj).2.ownBlock = some r') → r ≠ r')
    (hnr : ∀ j (hj : j < ys.length) r, ((ys[j]'hj).1.ownBlock = some r ∨ (ys[j]'hj).2.ownBlock = some r) → v.ownBlock ≠ some r)
    (h : ∀ v' w', OwnV w' B v' (L ++ M) (xs ++ ys) → w.grownBy w' v.ownBlock → wpList Try.prog ops Q rest (a.put o.dst v') w') : wpList Try.prog ops Q (o :: rest) a w := by
  obtain ⟨i0, hi, hz0, hz1, hz2⟩ := info_parts info_rat
  have hc := h2.count
  refine Go.wpList_append_own w hgd s x 23 ho B 42 i0 _ 3 56 Try.underlying23 hi hz0 hz1 hz2 rfl (by decide) v L.length (flat L xs) hs hown.row ⟨g, 0, none⟩ m c
    (flat M ys) hx (by rw [flat_len M ys h2.len, hc]) (fun j u hj => by
      have hlt := (List.getElem?_eq_some_iff.1 hj).1
      rw [flat_len M ys h2.len] at hlt
      have hrow := h2.row
      rw [hc] at hrow
      have := hrow.cellAt j (by omega)
      rw [show (⟨g, 0, none⟩ : Addr).add j = ⟨g, j, none⟩ by simp [Addr.add]; omega]
      exact this.trans hj) h2.one (by unfold maxLen; omega) (by omega) hB ?_
  intro v' w' hr hg _
  exact h v' w' (hown.append h2 hne hnr hg (by rw [hc]; exact hr)) hg
end Go.Proofs.Ytojklmckjebplaa
