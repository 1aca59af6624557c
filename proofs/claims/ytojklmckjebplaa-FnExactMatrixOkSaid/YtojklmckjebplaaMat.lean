/- Matrices in memory: two numbers and a vector of cells; what the exact laws do with them. -/
import Derived.Test.YtojklmckjebplaaVecs
import Derived.Test.YtojklmckjebplaaRatsIn
namespace Go.Proofs.Ytojklmckjebplaa
open Go.RowKit Go.WideShapes Go.ChangeShapes Go.Deep
set_option linter.unusedVariables false
set_option linter.unusedSimpArgs false

/-- a block of three cells -/
def B3 (w : World) (p : Nat) (t : TypeId) (x y z : Value) : Prop := w.heap[p]? = some (.cells #[x, y, z] t (0, 0))
section
variable {w w' : World} {p : Nat} {t : TypeId} {x y z : Value}
theorem B3.lt (h : B3 w p t x y z) : p < w.heap.size := (Array.getElem?_eq_some_iff.1 h).1
theorem B3.new (w : World) (t : TypeId) (x y z : Value) : B3 (w.alloc (.cells #[x, y, z] t)) w.heap.size t x y z := World.alloc_heap_new w _
theorem B3.below (h : B3 w p t x y z) (hb : Below w.heap.size w w') : B3 w' p t x y z := (hb.block p h.lt).trans h
theorem B3.keptK {S : Nat → Prop} (h : B3 w p t x y z) (hk : Kept S w w') (hn : ¬ S p) : B3 w' p t x y z := (hk.block p h.lt hn).trans h
theorem B3.alloc (h : B3 w p t x y z) (o : Obj) : B3 (w.alloc o) p t x y z := h.keptK (S := fun _ => False) ((Kept.refl _ w).trans (Kept.of_below ((Below.refl _ _).alloc (Nat.le_refl _) _))) (fun h => h)
theorem B3.drew (h : B3 w p t x y z) : B3 w.drew p t x y z := h
theorem B3.c0 (h : B3 w p t x y z) : w.cell? ⟨p, 0, none⟩ = some x := by simp [World.cell?, show w.heap[p]? = _ from h]
theorem B3.c1 (h : B3 w p t x y z) : w.cell? ⟨p, 1, none⟩ = some y := by simp [World.cell?, show w.heap[p]? = _ from h]
theorem B3.c2 (h : B3 w p t x y z) : w.cell? ⟨p, 2, none⟩ = some z := by simp [World.cell?, show w.heap[p]? = _ from h]
theorem B3.f (h : B3 w p t x y z) (j : Nat) : w.frozen? ⟨p, j, none⟩ = false := by simp [World.frozen?, show w.heap[p]? = _ from h]
theorem B3.set (h : B3 w p t x y z) (j : Nat) (u : Value) : (w.setCell ⟨p, j, none⟩ u).heap[p]? = some (.cells ((#[x, y, z] : Array Value).setIfInBounds j u) t (0, 0)) := by
  simp [World.setCell, Array.getElem?_modify, show w.heap[p]? = _ from h]
theorem B3.set0 (h : B3 w p t x y z) (u : Value) : B3 (w.setCell ⟨p, 0, none⟩ u) p t u y z := h.set 0 _
theorem B3.set1 (h : B3 w p t x y z) (u : Value) : B3 (w.setCell ⟨p, 1, none⟩ u) p t x u z := h.set 1 _
theorem B3.set2 (h : B3 w p t x y z) (u : Value) : B3 (w.setCell ⟨p, 2, none⟩ u) p t x y u := h.set 2 _
theorem B3.set3 (h : B3 w p t x y z) (a b c : Value) : B3 (((w.setCell ⟨p, 0, none⟩ a).setCell ⟨p, 1, none⟩ b).setCell ⟨p, 2, none⟩ c) p t a b c := ((h.set0 a).set1 b).set2 c
theorem B3.rx {b : Bool} (h : B3 w p t (.bool b) y z) : Rx w p t b y z := h
theorem Rx.b3 {b : Bool} (h : Rx w p t b y z) : B3 w p t (.bool b) y z := h
end
theorem b3_at {w : World} {p q : Nat} {t : TypeId} {x y z : Value} (h : B3 w p t x y z) (e : q = p) : B3 w q t x y z := by rw [e]; exact h
theorem kept_grown2 {w w' : World} {v d : Value} (h : Grown2 w w' v d) : Kept (fun k => v.ownBlock = some k ∨ d.ownBlock = some k) w w' := by
  obtain ⟨w1, g1, g2⟩ := h
  exact ((Kept.of_grown g1).mono (fun k e => .inl e)).trans ((Kept.of_grown g2).mono (fun k e => .inr e))
/-- a block of another type is none of a vector's -/
theorem OwnV.not_b3 {w : World} {B p : Nat} {v : Value} {L : List Fr} {xs : List (Value × Value)} {t : TypeId} {x y z : Value} (h : OwnV w B v L xs) (D : B3 w p t x y z) (h1 : t ≠ 42) (h2 : t ≠ 3) : ¬ OnV v xs p := by
  have D' : w.heap[p]? = some (.cells #[x, y, z] t (0, 0)) := D
  have key : ∀ (u : Value) (l : List Int), OwnI w B u l → u.ownBlock ≠ some p := by
    intro u l ho e
    rcases ho.2 with ⟨rfl, _⟩ | ⟨g1, cap1, cur1, rfl, _, hg1, _⟩
    · simp [Value.ownBlock] at e
    · have e1 : g1 = p := by simpa [Value.ownBlock] using e
      subst e1
      rw [hg1] at D'
      injection D' with D'
      injection D' with _ h3 _
      exact h2 h3.symm
  rintro (e | ⟨q, hq, e⟩)
  · rcases h.row.2 with ⟨rfl, _⟩ | ⟨g1, cap1, cur1, rfl, _, hg1, _⟩
    · simp [Value.ownBlock] at e
    · have e1 : g1 = p := by simpa [Value.ownBlock] using e
      subst e1
      rw [hg1] at D'
      injection D' with D'
      injection D' with _ h3 _
      exact h1 h3.symm
  · obtain ⟨i, hi, rfl⟩ := List.getElem_of_mem hq
    have hr := h.each i (by have := h.len; omega) hi
    rcases e with e | e
    · exact key _ _ hr.1 e
    · exact key _ _ hr.2.1 e
theorem OwnV.set_b3 {w : World} {B p : Nat} {v : Value} {L : List Fr} {xs : List (Value × Value)} {t : TypeId} {x y z : Value} (h : OwnV w B v L xs) (D : B3 w p t x y z) (h1 : t ≠ 42) (h2 : t ≠ 3) (j : Nat) (u : Value) : OwnV (w.setCell ⟨p, j, none⟩ u) B v L xs :=
  h.kept (kept_set w p j u) (fun k hk e => h.not_b3 D h1 h2 (by rw [← e]; exact hk))
theorem OwnV.set3_b3 {w : World} {B p : Nat} {v : Value} {L : List Fr} {xs : List (Value × Value)} {t : TypeId} {x y z : Value} (h : OwnV w B v L xs) (D : B3 w p t x y z) (h1 : t ≠ 42) (h2 : t ≠ 3) (a b c : Value) :
    OwnV (((w.setCell ⟨p, 0, none⟩ a).setCell ⟨p, 1, none⟩ b).setCell ⟨p, 2, none⟩ c) B v L xs :=
  ((h.set_b3 D h1 h2 0 a).set_b3 (D.set0 a) h1 h2 1 b).set_b3 ((D.set0 a).set1 b) h1 h2 2 c
theorem ratsAt_form {w : World} {v : Value} {L : List Fr} (h : RatsAt w v L) : ∃ a c, v = .slice a L.length c ∧ L.length ≤ c ∧ c ≤ 2 ^ 63 - 1 := by
  obtain ⟨a, c, rfl, h1, h2, _⟩ := h
  exact ⟨a, c, rfl, h1, by unfold maxLen at h2; omega⟩

/-! the exact laws' helpers -/
theorem sz_mat_yes (r c : Int) (v : Value) (L : List Fr) (left : Int) (w : World) (h : RatsAt w v L) (h0 : 0 ≤ left ∧ left ≤ 1048576) (h1 : (L.length : Int) + szL L ≤ left) :
    Calls Try.prog 23 #[.agg #[.int .i64 r, .int .i64 c, v], .int .i64 left] w fun e w' => e = .returned (.int .i64 (left - L.length - szL L)) ∧ Below w.heap.size w w' := by
  have HA := Lib.hid h
  obtain ⟨a, k, rfl, _, _⟩ := ratsAt_form h
  have T := fun o => sz_ratv_yes _ L left (w.alloc o) (h.below ((Below.refl _ _).alloc (Nat.le_refl _) o)) h0 h1
  obtain ⟨X, hX⟩ : ∃ X, X = left - (L.length : Int) - szL L := ⟨_, rfl⟩
  rw [← hX] at T ⊢
  have hx : ¬ X < 0 := by omega
  obtain ⟨n, hn⟩ : ∃ n, L.length = n := ⟨_, rfl⟩
  rw [hn] at T ⊢
  have HT := Lib.hid T
  clear hX T h0 h1 hn h
  go_enter Try.func23, Try.ntmps23
  go_wp2_with fail
  refine (HT.out _).mono ?_
  rintro e w1 ⟨rfl, b1⟩
  have B1 := Lib.hid (((Below.refl w.heap.size w).alloc (Nat.le_refl _) (.cells #[.int .i64 r, .int .i64 c, .slice a n k] 47)).trans (b1.mono (by simp)))
  clear b1
  go_wp2
  go_ret
  exact ⟨rfl, B1.out⟩
theorem sz_mat_no (r c : Int) (v : Value) (L : List Fr) (left : Int) (w : World) (h : RatsAt w v L) (h0 : 0 ≤ left ∧ left ≤ 1048576) (h1 : ¬ (L.length : Int) + szL L ≤ left) :
    Calls Try.prog 23 #[.agg #[.int .i64 r, .int .i64 c, v], .int .i64 left] w fun e w' => e = .returned (.int .i64 (-1)) ∧ Below w.heap.size w w' := by
  obtain ⟨a, k, rfl, _, _⟩ := ratsAt_form h
  have T := fun o => sz_ratv_no _ L left (w.alloc o) (h.below ((Below.refl _ _).alloc (Nat.le_refl _) o)) h0 h1
  obtain ⟨n, hn⟩ : ∃ n, L.length = n := ⟨_, rfl⟩
  rw [hn] at T ⊢
  have HT := Lib.hid T
  clear T h0 h1 hn h
  go_enter Try.func23, Try.ntmps23
  go_wp2_with fail
  refine (HT.out _).mono ?_
  rintro e w1 ⟨rfl, b1⟩
  have B1 := Lib.hid (((Below.refl w.heap.size w).alloc (Nat.le_refl _) (.cells #[.int .i64 r, .int .i64 c, .slice a n k] 47)).trans (b1.mono (by simp)))
  clear b1
  go_wp2
  go_ret
  exact ⟨rfl, B1.out⟩
theorem held_mat (r c : Int) (v : Value) (m : Nat) (mi : Int) (L : List Fr) (w : World) (hmi : mi = m) (h : RatsAt w v (markV m L)) (hm : m + cntL L ≤ 3000000) :
    Calls Try.prog 33 #[.agg #[.int .i64 r, .int .i64 c, v], .int .i64 mi] w fun e w' => e = .returned (.int .i64 ((m : Int) + cntL L)) ∧ Below w.heap.size w w' := by
  subst hmi
  obtain ⟨a, k, rfl, _, _⟩ := ratsAt_form h
  have T := fun o => held_ratv _ m m L (w.alloc o) rfl (h.below ((Below.refl _ _).alloc (Nat.le_refl _) o)) (by omega)
  obtain ⟨n, hn⟩ : ∃ n, (markV m L).length = n := ⟨_, rfl⟩
  rw [hn] at T ⊢
  obtain ⟨q, hq⟩ : ∃ q, cntL L = q := ⟨_, rfl⟩
  rw [hq] at T hm ⊢
  have hx : ¬ ((m : Int) + (q : Int) < 0) := by omega
  have HT := Lib.hid T
  clear T hn hq h
  go_enter Try.func33, Try.ntmps33
  go_wp2_with fail
  refine (HT.out _).mono ?_
  rintro e w1 ⟨rfl, b1⟩
  have B1 := Lib.hid (((Below.refl w.heap.size w).alloc (Nat.le_refl _) (.cells #[.int .i64 r, .int .i64 c, .slice a n k] 25)).trans (b1.mono (by simp)))
  clear b1
  go_wp2
  go_ret
  exact ⟨rfl, B1.out⟩
theorem mark_mat (r c : Int) (v : Value) (m : Nat) (mi : Int) (L : List Fr) (xs : List (Value × Value)) (B : Nat) (w : World) (hmi : mi = m) (h : OwnV w B v L xs) (hm : m + cntL L ≤ 9223372036854775807) (hn : L.length ≤ 1099511627776) :
    Calls Try.prog 32 #[.agg #[.int .i64 r, .int .i64 c, v], .int .i64 mi] w fun e w' => e = .returned (.int .i64 ((m : Int) + cntL L)) ∧ OwnV w' B v (markV m L) xs ∧ Kept (OnV v xs) w w' := by
  subst hmi
  have T := fun o => mark_ratv v m m L xs B (w.alloc o) rfl (h.alloc o) hm hn
  obtain ⟨a, k, rfl⟩ := h.slice
  obtain ⟨n, hnn⟩ : ∃ n, L.length = n := ⟨_, rfl⟩
  rw [hnn] at T ⊢
  have HT := Lib.hid T
  clear T hnn h hm hn
  go_enter Try.func32, Try.ntmps32
  go_wp2_with fail
  refine (HT.out _).mono ?_
  rintro e w1 ⟨rfl, o1, k1⟩
  have O1 := Lib.hid o1
  have K1 := Lib.hid ((Kept.of_below (S := OnV (.slice a n k) xs) ((Below.refl w.heap.size w).alloc (Nat.le_refl _) (.cells #[.int .i64 r, .int .i64 c, .slice a n k] 25))).trans k1)
  clear o1 k1
  go_wp2
  go_ret
  exact ⟨rfl, O1.out, K1.out⟩
theorem eq_mat (r c : Int) (v1 v2 : Value) (L : List Fr) (w : World) (h1 : RatsAt w v1 L) (h2 : RatsAt w v2 L) (hn : L.length ≤ 1048576) :
    Calls Try.prog 26 #[.agg #[.int .i64 r, .int .i64 c, v1], .agg #[.int .i64 r, .int .i64 c, v2]] w fun e w' => e = .returned (.bool true) ∧ Below w.heap.size w w' := by
  have T := Lib.hid (fun W (hW : Below w.heap.size w W) => eq_ratv v1 v2 L W (h1.below hW) (h2.below hW) hn)
  obtain ⟨a, k, rfl, _, _⟩ := ratsAt_form h1
  obtain ⟨a', k', rfl, _, _⟩ := ratsAt_form h2
  obtain ⟨n, hnn⟩ : ∃ n, L.length = n := ⟨_, rfl⟩
  rw [hnn] at T ⊢
  clear hnn h1 h2 hn
  go_enter Try.func26, Try.ntmps26
  go_wp2_with fail
  have bA := ((Below.refl w.heap.size w).alloc (Nat.le_refl _) (.cells #[.int .i64 r, .int .i64 c, .slice a n k] 25)).alloc (by simp) (.cells #[.int .i64 r, .int .i64 c, .slice a' n k'] 25)
  refine (T.out _ bA).mono ?_
  rintro e w1 ⟨rfl, b1⟩
  have B1 := Lib.hid (bA.trans (b1.mono (by simp; omega)))
  clear b1 bA
  go_wp2
  go_ret
  exact ⟨rfl, B1.out⟩
set_option maxHeartbeats 1000000 in
theorem to_mat (r c : Int) (v : Value) (L : List Fr) (w : World) (h : RatsAt w v L) (hn : L.length ≤ 1048576) (hl : ∀ f ∈ L, f.mag.length ≤ 1099511627776 ∧ f.den.length ≤ 1099511627776) :
    Calls Try.prog 25 #[.agg #[.int .i64 r, .int .i64 c, v]] w fun e w' => ∃ v' xs, e = .returned (.agg #[.int .i64 r, .int .i64 c, v']) ∧ OwnV w' w.heap.size v' L xs ∧ Below w.heap.size w w' := by
  have T := Lib.hid (fun W (hW : Below w.heap.size w W) => to_ratv v L W (h.below hW) hn hl)
  obtain ⟨a, k, rfl, _, _⟩ := ratsAt_form h
  obtain ⟨n, hnn⟩ : ∃ n, L.length = n := ⟨_, rfl⟩
  rw [hnn] at T ⊢
  have HN := Lib.hid hnn
  clear hnn h hn hl
  go_enter Try.func25, Try.ntmps25
  go_wp2_with fail
  obtain ⟨W3, hW3⟩ : ∃ x, x = ((w.alloc (.cells #[.int .i64 r, .int .i64 c, .slice a n k] 47)).alloc (.cells #[.int .i64 0, .int .i64 0, .slice none 0 0] 25)).alloc (.cells #[.int .i64 r, .int .i64 c, .slice none 0 0] 25) := ⟨_, rfl⟩
  have b3 : Below w.heap.size w W3 := by rw [hW3]; exact (((Below.refl _ _).alloc (Nat.le_refl _) _).alloc (by simp) _).alloc (by simp; omega) _
  have D1 : B3 W3 (w.heap.size + 1) 25 (.int .i64 0) (.int .i64 0) (.slice none 0 0) := by
    rw [hW3]
    have h := (B3.new (w.alloc (.cells #[.int .i64 r, .int .i64 c, .slice a n k] 47)) 25 (.int .i64 0) (.int .i64 0) (.slice none 0 0)).alloc (.cells #[.int .i64 r, .int .i64 c, .slice none 0 0] 25)
    rw [World.size_alloc] at h
    exact h
  have D2 : B3 W3 (w.heap.size + 1 + 1) 25 (.int .i64 r) (.int .i64 c) (.slice none 0 0) := by
    rw [hW3]
    have h := B3.new ((w.alloc (.cells #[.int .i64 r, .int .i64 c, .slice a n k] 47)).alloc (.cells #[.int .i64 0, .int .i64 0, .slice none 0 0] 25)) 25 (.int .i64 r) (.int .i64 c) (.slice none 0 0)
    rw [World.size_alloc, World.size_alloc] at h
    exact h
  have hsz : W3.heap.size = w.heap.size + 1 + 1 + 1 := by rw [hW3]; simp
  rw [← hW3]
  clear hW3
  refine (T.out _ b3).mono ?_
  rintro e w4 ⟨v', xs, rfl, o4, b4⟩
  obtain ⟨a', c', rfl⟩ := o4.slice
  rw [HN.out] at o4 ⊢
  have E1 := D1.below b4
  have E2 := D2.below b4
  have F2 := E2.set2 (.slice a' n c')
  have F1 := E1.keptK (kept_set w4 (w.heap.size + 1 + 1) 2 (.slice a' n c')) (fun e => by omega)
  have F1s := F1.set3 (.int .i64 r) (.int .i64 c) (.slice a' n c')
  have O6 := Lib.hid ((((o4.set_b3 E2 (by decide) (by decide) 2 (.slice a' n c')).set3_b3 F1 (by decide) (by decide) (.int .i64 r) (.int .i64 c) (.slice a' n c'))).base (by rw [hsz]; omega : w.heap.size ≤ W3.heap.size))
  have B6 := Lib.hid (((((b3.trans (b4.mono b3.size)).setCell (p := ⟨w.heap.size + 1 + 1, 2, none⟩) (show w.heap.size ≤ w.heap.size + 1 + 1 by omega) (.slice a' n c')).setCell (p := ⟨w.heap.size + 1, 0, none⟩) (Nat.le_succ _) (.int .i64 r)).setCell (p := ⟨w.heap.size + 1, 1, none⟩) (Nat.le_succ _) (.int .i64 c)).setCell (p := ⟨w.heap.size + 1, 2, none⟩) (Nat.le_succ _) (.slice a' n c'))
  have i2 := E2.c2
  have j2 := E2.f 2
  have k0 := F2.c0
  have k1 := F2.c1
  have k2 := F2.c2
  have l0 := F1.c0
  have l1 := F1.c1
  have l2 := F1.c2
  have m0 := F1.f 0
  have m1 := F1.f 1
  have m2 := F1.f 2
  have n0 := F1s.c0
  have n1 := F1s.c1
  have n2 := F1s.c2
  clear E1 E2 F1 F2 F1s D1 D2 o4 b4 b3 T hsz
  go_wp2
  exact bodyPost_ret (v := .agg #[.int .i64 r, .int .i64 c, .slice a' n c']) (by simp [results, Try.results25, go_sem, n0, n1, n2]) rfl ⟨_, xs, rfl, O6.out, B6.out⟩
set_option maxRecDepth 100000 in
/-- a Matrix that came in -/
theorem mat_in {H : Type} {enc : TypeId × Value → H} {W : World} {r : Reach} {b0 : Nat} {v : Value} {d : DataW H} {p : List MemPlace}
    (hv : Value.okWide Try.prog W r b0 47 v) (h : DataW.Trod enc Try.prog W 0 (fun _ => true) true 47 v d p) :
    ∃ (rows cols : Int) (u : Value) (L : List Fr), v = .agg #[.int .i64 rows, .int .i64 cols, u] ∧ (Lit.int .i64 rows).wf = true ∧ (Lit.int .i64 cols).wf = true ∧ RatsAt W u L ∧ True := by
  obtain ⟨v0, v1, v2, y0, y1, y2, n, rfl, _, _, h0, h1, h2⟩ := Go.Joins.open_agg3 Try.underlying47 (by kernel_rfl) (by kernel_rfl) hv h
  obtain ⟨rows, hr, _, wr⟩ := DataW.trod_int Try.underlying3 h0
  obtain ⟨cols, hc, _, wc⟩ := DataW.trod_int Try.underlying3 h1
  obtain rfl : v0 = .int .i64 rows := by simpa using hr
  obtain rfl : v1 = .int .i64 cols := by simpa using hc
  have hs : ∃ a l c, v2 = .slice a l c := by
    rcases open_slice Try.underlying45 h2 with ⟨hcs, _⟩ | ⟨x, len, cap, m, n, D, Pl, hcs, _⟩
    · exact ⟨none, 0, 0, by simpa using hcs⟩
    · exact ⟨some x, len, cap, by simpa using hcs⟩
  obtain ⟨a, l, c, rfl⟩ := hs
  obtain ⟨L, hL, _⟩ := rats_in (enc := enc) (W := W) (a := a) (l := l) (c := c) (d := y2.1) (p := y2.2) ⟨n, h2⟩
  exact ⟨rows, cols, _, L, rfl, wr, wc, hL, trivial⟩
end Go.Proofs.Ytojklmckjebplaa
