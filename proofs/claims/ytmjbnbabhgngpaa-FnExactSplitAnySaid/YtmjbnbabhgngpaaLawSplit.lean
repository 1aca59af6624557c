/- The exact laws of SplitAny and SplitLines: the program's result is the model's, in memory of its own. -/
import Derived.Test.YtmjbnbabhgngpaaSplit
namespace Go.Proofs.Ytmjbnbabhgngpaa
open Go.RowKit

theorem ownsRow_grown {w w' : World} {B : Nat} {e : TypeId} {size : Nat} {v : Value} {n : Nat} {xs : List Value} {row : Option Nat} (h : w.ownsRow B e size v n xs) (hg : w.grownBy w' row) (hne : ∀ g g', v.ownBlock = some g → row = some g' → g ≠ g') : w'.ownsRow B e size v n xs :=
  h.kept hg (by cases hv : v.ownBlock with
    | none => exact .inl rfl
    | some g => exact .inr (fun h => by cases row with
      | none => simp at h
      | some g' => exact hne g g' hv rfl (by simpa using h)))

theorem mark_from (v : Value) (n m : Nat) (mi : Int) (xs : List Value) (B : Nat) (w : World) (hmi : mi = m) (h : w.ownsRow B 9 1 v n xs) (hm : m + n ≤ 9223372036854775807) :
    Calls Try.prog 16 #[v, .int .i64 mi] w fun e w' => e = .returned (.int .i64 ((m : Int) + (n : Int))) ∧ w'.ownsRow B 9 1 v n ((marks m n).map .string) ∧ w.grownBy w' v.ownBlock := by
  subst hmi; exact mark_strings v n m xs B w h hm
theorem held_from (v : Value) (n m : Nat) (mi : Int) (w : World) (hmi : mi = m) (h : RowOf .string w v (marks m n)) (hm : m + n ≤ 9223372036854775807) :
    Calls Try.prog 17 #[v, .int .i64 mi] w fun e w' => e = .returned (.int .i64 ((m : Int) + (n : Int))) ∧ Below w.heap.size w w' := by
  subst hmi; exact held_strings v n m w h hm

set_option maxHeartbeats 1000000 in
theorem law_splitAny (s : ByteArray) (hs : s.size ≤ maxLen) (by' : ByteArray) (hb : by'.size ≤ maxLen) (w : World) :
    Calls Try.prog 5 #[.string s, .string by'] w fun e w' => e = .returned (.bool true) ∧ Below w.heap.size w w' := by
  have hs0 := hs
  have hb0 := hb
  unfold maxLen at hs0 hb0
  by_cases hl : s.size ≤ 1048576
  · by_cases hl2 : by'.size ≤ 1048576
    · have HL := Lib.hid (cutAll_length (hasB by') s)
      go_enter Try.func5, Try.ntmps5
      go_wp2_with fail
      refine (spec_splitAny s by' _ (by omega) hb).mono ?_
      rintro e w1 ⟨v1, rfl, o1, b1⟩
      have O1 := Lib.hid o1
      clear o1
      go_wp2_with fail
      refine (impl_splitAny s by' _ (by omega) hb).mono ?_
      rintro e w2 ⟨v2, rfl, o2, b2⟩
      have O2 := Lib.hid o2
      clear o2
      have O1b := Lib.hid (ownsRow_below O1.out b2)
      go_wp2_with fail
      refine (eq_strings _ _ _ _ (ownsRow_row O2.out) (ownsRow_row O1b.out)).mono ?_
      rintro e w3 ⟨rfl, q3, rfl⟩
      go_wp2_with fail
      have hn : 1 + (cutAll (hasB by') s).length ≤ 9223372036854775807 := by have := HL.out; omega
      refine (mark_from v2 _ 1 _ _ _ _ (by simp) (ownsRow_drewN O2.out _) hn).mono ?_
      rintro e w4 ⟨rfl, o4, g4⟩
      have O4 := Lib.hid o4
      have O1c := Lib.hid (ownsRow_grown (ownsRow_drewN O1b.out q3) g4 (fun g g' h1 h2 => by have := (O1.out.lt g h1).2; have := (O2.out.lt g' h2).1; omega))
      have B4 := Lib.hid ((below_drewN' (b1.trans (b2.mono b1.size)) q3).grown g4 (by have := b1.size; have := b2.size; show _ ≤ w2.heap.size; omega) (fun g hg => by have := (O2.out.lt g hg).1; have := b1.size; omega))
      clear o4 g4
      go_wp2_with fail
      refine (held_from v2 _ 1 _ _ (by simp) (ownsRow_row O4.out) hn).mono ?_
      rintro e w5 ⟨rfl, b5⟩
      go_wp2_with fail
      refine (impl_splitAny s by' _ (by omega) hb).mono ?_
      rintro e w6 ⟨v6, rfl, o6, b6⟩
      have O6 := Lib.hid o6
      clear o6
      have O1d := Lib.hid (ownsRow_below (ownsRow_below O1c.out b5) b6)
      have O4b := Lib.hid (ownsRow_below (ownsRow_below O4.out b5) b6)
      go_wp2_with fail
      refine (eq_strings _ _ _ _ (ownsRow_row O6.out) (ownsRow_row O1d.out)).mono ?_
      rintro e w7 ⟨rfl, q7, rfl⟩
      go_wp2_with fail
      refine (held_from v2 _ 1 _ _ (by simp) (ownsRow_row (ownsRow_drewN O4b.out q7)) hn).mono ?_
      rintro e w8 ⟨rfl, b8⟩
      have B8 := Lib.hid (((below_drewN' ((B4.out.trans (b5.mono B4.out.size)).trans (b6.mono (Nat.le_trans B4.out.size b5.size))) q7)).trans (b8.mono (Nat.le_trans B4.out.size (Nat.le_trans b5.size b6.size))))
      go_wp2
      go_ret
      exact ⟨rfl, B8.out⟩
    · go_enter Try.func5, Try.ntmps5
      go_wp2
      go_ret
      exact ⟨rfl, Below.refl _ _⟩
  · go_enter Try.func5, Try.ntmps5
    go_wp2
    go_ret
    exact ⟨rfl, Below.refl _ _⟩

end Go.Proofs.Ytmjbnbabhgngpaa
