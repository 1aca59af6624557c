/- What is too long to be kept: isShort and limited of the program. -/
import Derived.Test.YtlepgkkpopjgoaaGreatZRatAns
namespace Go.Proofs.YtlepgkkpopjgoaaGreat
open Go.RowKit Go.WideShapes Go.ChangeShapes
set_option linter.unusedVariables false
set_option linter.unusedSimpArgs false

set_option maxHeartbeats 400000 in
theorem impl_isShort (b : Bool) (a : Option Addr) (n c : Nat) (e : Option Addr) (m f : Nat) (w : World) :
    Calls Tryz.prog 106 #[.agg #[.bool b, .slice a n c, .slice e m f]] w fun r w' => r = .returned (.bool (decide (n ≤ 24) && decide (m ≤ 24))) ∧ Below w.heap.size w w' := by
  by_cases hn : n ≤ 24
  · by_cases hm : m ≤ 24
    · rw [decide_eq_true hn, decide_eq_true hm]
      go_enter Tryz.func106, Tryz.ntmps106
      go_wp2
      go_ret
      exact ⟨ret_bool (by first | rfl | (simp; omega)), (Below.refl _ _).alloc (Nat.le_refl _) _⟩
    · rw [decide_eq_true hn, decide_eq_false hm]
      go_enter Tryz.func106, Tryz.ntmps106
      go_wp2
      go_ret
      exact ⟨ret_bool (by first | rfl | (simp; omega)), (Below.refl _ _).alloc (Nat.le_refl _) _⟩
  · rw [decide_eq_false hn]
    have hd : decide ((n : Int) ≤ 24) = false := by simp; omega
    go_enter Tryz.func106, Tryz.ntmps106
    go_wp2
    go_ret
    exact ⟨ret_bool (by first | rfl | (simp; omega)), (Below.refl _ _).alloc (Nat.le_refl _) _⟩

/-- the fraction itself where it is short, else the zero value -/
def Lim (sh : Bool) (b : Bool) (v d : Value) (b' : Bool) (v' d' : Value) : Prop :=
  (sh = true ∧ b' = b ∧ v' = v ∧ d' = d) ∨ (sh = false ∧ b' = false ∧ v' = .slice none 0 0 ∧ d' = .slice none 0 0)
theorem OwnR.nil (w : World) (B : Nat) : OwnR w B (.slice none 0 0) [] (.slice none 0 0) [] := ⟨OwnI.nil _ _, OwnI.nil _ _, fun g g' h _ => by simp [Value.ownBlock] at h⟩
theorem lim_own {w : World} {B x d : Nat} {b s b' : Bool} {v dd v' d' : Value} (h : Lim (decide (nlen x ≤ 24) && decide (nlen d ≤ 24)) b v dd b' v' d') (h0 : 0 < d) (hb : b = (s && decide (0 < x))) (ho : OwnR w B v (limI x) dd (limI d)) :
    b' = mkB s x d ∧ OwnR w B v' (mkZ x d) d' (mkD x d) := by
  have e : (decide (nlen x ≤ 24) && decide (nlen d ≤ 24)) = okS x d := by
    unfold okS
    rw [decide_eq_true h0, Bool.true_and]
    congr 1 <;> exact decide_eq_decide.2 (nlen_le_iff _ _)
  rw [e] at h
  rcases h with ⟨h1, rfl, rfl, rfl⟩ | ⟨h1, rfl, rfl, rfl⟩
  · rw [(mk_yes h1 s).1, (mk_yes h1 s).2.1, (mk_yes h1 s).2.2]; exact ⟨hb, ho⟩
  · rw [(mk_no h1 s).1, (mk_no h1 s).2.1, (mk_no h1 s).2.2]; exact ⟨rfl, OwnR.nil _ _⟩
theorem rat_end {w wn : World} {p B : Nat} {t : TypeId} {b b' : Bool} {v d u e : Value} {zs ds : List Int} (hB : Below w.heap.size w wn) (D : Rx wn p t b v d) (ho : OwnR wn B u zs e ds) (ht : t ≠ 3) (h1 : w.heap.size ≤ B) (h2 : w.heap.size ≤ p) (y z : Value) :
    OwnR (((wn.setCell ⟨p, 0, none⟩ (.bool b')).setCell ⟨p, 1, none⟩ y).setCell ⟨p, 2, none⟩ z) w.heap.size u zs e ds ∧ Below w.heap.size w (((wn.setCell ⟨p, 0, none⟩ (.bool b')).setCell ⟨p, 1, none⟩ y).setCell ⟨p, 2, none⟩ z) :=
  ⟨(ho.set3 D ht y z).base h1, ((hB.setCell h2 _).setCell h2 _).setCell h2 _⟩

set_option maxHeartbeats 400000 in
theorem impl_limitedR2 (b : Bool) (a : Option Addr) (n c : Nat) (e : Option Addr) (m f : Nat) (w : World) :
    Calls Tryz.prog 145 #[.agg #[.bool b, .slice a n c, .slice e m f]] w fun r w' => ∃ b' a' n' c' e' m' f', r = .returned (.agg #[.bool b', .slice a' n' c', .slice e' m' f']) ∧ Lim (decide (n ≤ 24) && decide (m ≤ 24)) b (.slice a n c) (.slice e m f) b' (.slice a' n' c') (.slice e' m' f') ∧ Below w.heap.size w w' := by
  have K := Lib.hid (fun W => impl_isShort b a n c e m f W)
  cases hs : (decide (n ≤ 24) && decide (m ≤ 24)) with
  | true =>
    rw [hs] at K
    clear hs
    go_enter Tryz.func145, Tryz.ntmps145
    go_wp2_with fail
    obtain ⟨W0, hW0⟩ : ∃ x, x = ((w.alloc (.cells #[.bool b, .slice a n c, .slice e m f] 34)).alloc (.cells #[.bool false, .slice none 0 0, .slice none 0 0] 34)) := ⟨_, rfl⟩
    have B := Lib.hid (show Below w.heap.size w W0 by rw [hW0]; exact (((Below.refl _ _).alloc (Nat.le_refl _) _).alloc (by simp) _))
    have D_x := Lib.hid (rx_at (show Rx W0 _ 34 (b) (.slice a n c) (.slice e m f) by rw [hW0]; exact (Rx.new _ _ _ _ _).alloc _) (show w.heap.size = _ by simp))
    have D_r := Lib.hid (rx_at (show Rx W0 _ 34 (false) (.slice none 0 0) (.slice none 0 0) by rw [hW0]; exact Rx.new _ _ _ _ _) (show (w.heap.size + 1) = _ by simp))
    have SZ := Lib.hid (show W0.heap.size = w.heap.size + 1 + 1 by rw [hW0]; simp)
    rw [← hW0]
    clear hW0
    have BB := Lib.hid (Below.refl W0.heap.size W0)
    refine (K.out _).mono ?_
    rintro e w1 ⟨rfl, bw1⟩
    replace B := Lib.hid (B.out.trans (bw1.mono B.out.size))
    replace BB := Lib.hid (BB.out.trans (bw1.mono BB.out.size))
    clear bw1
    have c0_x := (D_x.out.below BB.out).c0
    have c1_x := (D_x.out.below BB.out).c1
    have c2_x := (D_x.out.below BB.out).c2
    have c0_r := (D_r.out.below BB.out).c0
    have c1_r := (D_r.out.below BB.out).c1
    have c2_r := (D_r.out.below BB.out).c2
    have f0_r := (D_r.out.below BB.out).f 0
    have f1_r := (D_r.out.below BB.out).f 1
    have f2_r := (D_r.out.below BB.out).f 2
    go_wp2
    have D9 := Rx.set3 (b' := b) (v' := .slice a n c) (d' := .slice e m f) (D_r.out.below BB.out)
    have hc0 := D9.c0
    have hc1 := D9.c1
    have hc2 := D9.c2
    have hB := ((B.out.setCell (p := ⟨(w.heap.size + 1), 0, none⟩) (by simp) (.bool b)).setCell (p := ⟨(w.heap.size + 1), 1, none⟩) (by simp) (.slice a n c)).setCell (p := ⟨(w.heap.size + 1), 2, none⟩) (by simp) (.slice e m f)
    exact bodyPost_ret (v := .agg #[.bool b, .slice a n c, .slice e m f]) (by simp [results, Tryz.results145, go_sem, hc0, hc1, hc2]) rfl ⟨_, _, _, _, _, _, _, rfl, .inl ⟨rfl, rfl, rfl, rfl⟩, hB⟩

  | false =>
    rw [hs] at K
    clear hs
    go_enter Tryz.func145, Tryz.ntmps145
    go_wp2_with fail
    obtain ⟨W0, hW0⟩ : ∃ x, x = ((w.alloc (.cells #[.bool b, .slice a n c, .slice e m f] 34)).alloc (.cells #[.bool false, .slice none 0 0, .slice none 0 0] 34)) := ⟨_, rfl⟩
    have B := Lib.hid (show Below w.heap.size w W0 by rw [hW0]; exact (((Below.refl _ _).alloc (Nat.le_refl _) _).alloc (by simp) _))
    have D_x := Lib.hid (rx_at (show Rx W0 _ 34 (b) (.slice a n c) (.slice e m f) by rw [hW0]; exact (Rx.new _ _ _ _ _).alloc _) (show w.heap.size = _ by simp))
    have D_r := Lib.hid (rx_at (show Rx W0 _ 34 (false) (.slice none 0 0) (.slice none 0 0) by rw [hW0]; exact Rx.new _ _ _ _ _) (show (w.heap.size + 1) = _ by simp))
    have SZ := Lib.hid (show W0.heap.size = w.heap.size + 1 + 1 by rw [hW0]; simp)
    rw [← hW0]
    clear hW0
    have BB := Lib.hid (Below.refl W0.heap.size W0)
    refine (K.out _).mono ?_
    rintro e w1 ⟨rfl, bw1⟩
    replace B := Lib.hid (B.out.trans (bw1.mono B.out.size))
    replace BB := Lib.hid (BB.out.trans (bw1.mono BB.out.size))
    clear bw1
    have c0_x := (D_x.out.below BB.out).c0
    have c1_x := (D_x.out.below BB.out).c1
    have c2_x := (D_x.out.below BB.out).c2
    have c0_r := (D_r.out.below BB.out).c0
    have c1_r := (D_r.out.below BB.out).c1
    have c2_r := (D_r.out.below BB.out).c2
    have f0_r := (D_r.out.below BB.out).f 0
    have f1_r := (D_r.out.below BB.out).f 1
    have f2_r := (D_r.out.below BB.out).f 2
    go_wp2
    have D9 := Rx.set3 (b' := false) (v' := .slice none 0 0) (d' := .slice none 0 0) (D_r.out.below BB.out)
    have hc0 := D9.c0
    have hc1 := D9.c1
    have hc2 := D9.c2
    have hB := ((B.out.setCell (p := ⟨(w.heap.size + 1), 0, none⟩) (by simp) (.bool false)).setCell (p := ⟨(w.heap.size + 1), 1, none⟩) (by simp) (.slice none 0 0)).setCell (p := ⟨(w.heap.size + 1), 2, none⟩) (by simp) (.slice none 0 0)
    exact bodyPost_ret (v := .agg #[.bool false, .slice none 0 0, .slice none 0 0]) (by simp [results, Tryz.results145, go_sem, hc0, hc1, hc2]) rfl ⟨_, _, _, _, _, _, _, rfl, .inr ⟨rfl, rfl, rfl, rfl⟩, hB⟩

end Go.Proofs.YtlepgkkpopjgoaaGreat
