/- What is too long to be kept: isShort and limited of the program. -/
import Derived.Test.YtdajldenjeanhaaGreatDoorRatAns
namespace Go.Proofs.YtdajldenjeanhaaGreatDoor
open Go.RowKit Go.WideShapes Go.ChangeShapes
set_option linter.unusedVariables false
set_option linter.unusedSimpArgs false

set_option maxHeartbeats 400000 in
theorem impl_isShort (b : Bool) (a : Option Addr) (n c : Nat) (e : Option Addr) (m f : Nat) (w : World) :
    Calls Tryz.prog 54 #[.agg #[.bool b, .slice a n c, .slice e m f]] w fun r w' => r = .returned (.bool (decide (n ≤ 24) && decide (m ≤ 24))) ∧ Below w.heap.size w w' := by
  by_cases hn : n ≤ 24
  · by_cases hm : m ≤ 24
    · rw [decide_eq_true hn, decide_eq_true hm]
      go_enter Tryz.func54, Tryz.ntmps54
      go_wp2
      go_ret
      exact ⟨ret_bool (by first | rfl | (simp; omega)), (Below.refl _ _).alloc (Nat.le_refl _) _⟩
    · rw [decide_eq_true hn, decide_eq_false hm]
      go_enter Tryz.func54, Tryz.ntmps54
      go_wp2
      go_ret
      exact ⟨ret_bool (by first | rfl | (simp; omega)), (Below.refl _ _).alloc (Nat.le_refl _) _⟩
  · rw [decide_eq_false hn]
    have hd : decide ((n : Int) ≤ 24) = false := by simp; omega
    go_enter Tryz.func54, Tryz.ntmps54
    go_wp2
    go_ret
    exact ⟨ret_bool (by first | rfl | (simp; omega)), (Below.refl _ _).alloc (Nat.le_refl _) _⟩

/-- the fraction itself where it is short, else the zero value -/
def Lim (sh : Bool) (b : Bool) (v d : Value) (b' : Bool) (v' d' : Value) : Prop :=
  (sh = true ∧ b' = b ∧ v' = v ∧ d' = d) ∨ (sh = false ∧ b' = false ∧ v' = .slice none 0 0 ∧ d' = .slice none 0 0)
theorem OwnR.nil (w : World) (B : Nat) : OwnR w B (.slice none 0 0) [] (.slice none 0 0) [] := ⟨OwnI.nil _ _, OwnI.nil _ _, fun g g' h _ => by simp [Value.ownBlock] at h⟩
theorem lim_own {w : World} {B x d : Nat} {b s b' : Bool} {v dd v' d' : Value} (h : Lim (decide (nlen x ≤ 24) && decide (nlen d ≤ 24)) b v dd b' v' d') (h0 : 0 < d) (hb : b = (s && decide (0 < x))) (ho : OwnR w B v (limI x) dd (limI d)) :
    b' = mkB s x d ∧ OwnR w B v' (mkZ x d) d' (mkD x d) := by
  have e : (decide (nlen x ≤ 24) && decide (nlen d ≤ 24)) = okS x d := by
    unfold okS
    rw [decide_eq_true h0, Bool.true_and]
    congr 1 <;> exact decide_eq_decide.2 (nlen_le_iff _ _)
  rw [e] at h
  rcases h with ⟨h1, rfl, rfl, rfl⟩ | ⟨h1, rfl, rfl, rfl⟩
  · rw [(mk_yes h1 s).1, (mk_yes h1 s).2.1, (mk_yes h1 s).2.2]; exact ⟨hb, ho⟩
  · rw [(mk_no h1 s).1, (mk_no h1 s).2.1, (mk_no h1 s).2.2]; exact ⟨rfl, OwnR.nil _ _⟩
theorem rat_end {w wn : World} {p B : Nat} {t : TypeId} {b b' : Bool} {v d u e : Value} {zs ds : List Int} (hB : Below w.heap.size w wn) (D : Rx wn p t b v d) (ho : OwnR wn B u zs e ds) (ht : t ≠ 3) (h1 : w.heap.size ≤ B) (h2 : w.heap.size ≤ p) (y z : Value) :
    OwnR (((wn.setCell ⟨p, 0, none⟩ (.bool b')).setCell ⟨p, 1, none⟩ y).setCell ⟨p, 2, none⟩ z) w.heap.size u zs e ds ∧ Below w.heap.size w (((wn.setCell ⟨p, 0, none⟩ (.bool b')).setCell ⟨p, 1, none⟩ y).setCell ⟨p, 2, none⟩ z) :=
  ⟨(ho.set3 D ht y z).base h1, ((hB.setCell h2 _).setCell h2 _).setCell h2 _⟩


end Go.Proofs.YtdajldenjeanhaaGreatDoor
