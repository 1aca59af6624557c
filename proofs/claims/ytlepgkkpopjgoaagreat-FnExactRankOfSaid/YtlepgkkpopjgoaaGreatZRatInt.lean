/- RatOf and RatFromInt of the program and of the model. -/
import Derived.Test.YtlepgkkpopjgoaaGreatZSpecLow
import Derived.Test.YtlepgkkpopjgoaaGreatZBigOfLaw
namespace Go.Proofs.YtlepgkkpopjgoaaGreat
open Go.RowKit Go.WideShapes Go.ChangeShapes
set_option linter.unusedVariables false
set_option linter.unusedSimpArgs false

set_option maxRecDepth 100000 in
set_option maxHeartbeats 1000000 in
theorem spec_ratFromInt (n : Int) (w : World) (hn : -9223372036854775808 ≤ n ∧ n ≤ 9223372036854775807) :
    Calls Tryz.prog 82 #[.int .i64 n] w fun r w' => ∃ v dd, r = .returned (.agg #[.bool (ofB n), v, dd]) ∧ OwnR w' w.heap.size v (ofL n) dd [1] ∧ Below w.heap.size w w' := by
  have HN := Lib.hid hn
  clear hn
  go_enter Tryz.func82, Tryz.ntmps82
  go_wp2_with fail
  obtain ⟨W0, hW0⟩ : ∃ x, x = (w.alloc (.cells #[.bool false, .slice none 0 0, .slice none 0 0] 34)) := ⟨_, rfl⟩
  have B := Lib.hid (show Below w.heap.size w W0 by rw [hW0]; exact ((Below.refl _ _).alloc (Nat.le_refl _) _))
  have D_r := Lib.hid (rx_at (show Rx W0 _ 34 (false) (.slice none 0 0) (.slice none 0 0) by rw [hW0]; exact Rx.new _ _ _ _ _) (show w.heap.size = _ by simp))
  have SZ := Lib.hid (show W0.heap.size = w.heap.size + 1 by rw [hW0]; simp)
  rw [← hW0]
  clear hW0
  have BB := Lib.hid (Below.refl W0.heap.size W0)
  refine (spec_bigOf n _ HN.out).mono ?_
  rintro e w1 ⟨v_x, rfl, o_x, bw1⟩
  obtain ⟨a_x, c_x, rfl⟩ := o_x.slice
  have O_x := Lib.hid (o_x.base BB.out.size)
  clear o_x
  replace B := Lib.hid (B.out.trans (bw1.mono B.out.size))
  replace BB := Lib.hid (BB.out.trans (bw1.mono BB.out.size))
  clear bw1
  have D9 := (D_r.out.below BB.out).alloc (.cells #[.int .i64 1] 3)
  have B9 := B.out.alloc B.out.size (.cells #[.int .i64 1] 3)
  have hs9 := BB.out.size
  have oo : OwnR (w1.alloc (.cells #[.int .i64 1] 3)) W0.heap.size (.slice a_x (ofL n).length c_x) (ofL n) (.slice (some ⟨w1.heap.size, 0, none⟩) 1 1) [1] := ⟨O_x.out.alloc _, OwnI.lit1 _ _ 1 hs9, fun g g' e1 e2 e3 => by have h1 := (O_x.out.lt g e1).2; have h2 : w1.heap.size = g' := (by simpa [Value.ownBlock] using e2); omega⟩
  obtain ⟨e1, e2⟩ := rat_end (b' := ofB n) B9 D9 oo (by decide) (by have := SZ.out; omega) (by omega) (.slice a_x (ofL n).length c_x) (.slice (some ⟨w1.heap.size, 0, none⟩) 1 1)
  have k0 := D9.c0; have k1 := D9.c1; have k2 := D9.c2; have k3 := D9.f 0; have k4 := D9.f 1; have k5 := D9.f 2
  have D8 := Rx.set3 (b' := ofB n) (v' := .slice a_x (ofL n).length c_x) (d' := .slice (some ⟨w1.heap.size, 0, none⟩) 1 1) D9
  have hc0 := D8.c0; have hc1 := D8.c1; have hc2 := D8.c2
  go_wp2
  exact bodyPost_ret (v := .agg #[.bool (ofB n), .slice a_x (ofL n).length c_x, .slice (some ⟨w1.heap.size, 0, none⟩) 1 1]) (by simp [results, Tryz.results82, go_sem, hc0, hc1, hc2]) rfl ⟨_, _, rfl, e1, e2⟩

set_option maxRecDepth 100000 in
set_option maxHeartbeats 1000000 in
theorem impl_ratFromInt (n : Int) (w : World) (hn : -9223372036854775808 ≤ n ∧ n ≤ 9223372036854775807) :
    Calls Tryz.prog 59 #[.int .i64 n] w fun r w' => ∃ v dd, r = .returned (.agg #[.bool (ofB n), v, dd]) ∧ OwnR w' w.heap.size v (ofL n) dd [1] ∧ Below w.heap.size w w' := by
  have HN := Lib.hid hn
  clear hn
  go_enter Tryz.func59, Tryz.ntmps59
  go_wp2_with fail
  obtain ⟨W0, hW0⟩ : ∃ x, x = (w.alloc (.cells #[.bool false, .slice none 0 0, .slice none 0 0] 34)) := ⟨_, rfl⟩
  have B := Lib.hid (show Below w.heap.size w W0 by rw [hW0]; exact ((Below.refl _ _).alloc (Nat.le_refl _) _))
  have D_r := Lib.hid (rx_at (show Rx W0 _ 34 (false) (.slice none 0 0) (.slice none 0 0) by rw [hW0]; exact Rx.new _ _ _ _ _) (show w.heap.size = _ by simp))
  have SZ := Lib.hid (show W0.heap.size = w.heap.size + 1 by rw [hW0]; simp)
  rw [← hW0]
  clear hW0
  have BB := Lib.hid (Below.refl W0.heap.size W0)
  refine (impl_bigOf n _ HN.out).mono ?_
  rintro e w1 ⟨v_x, rfl, o_x, bw1⟩
  obtain ⟨a_x, c_x, rfl⟩ := o_x.slice
  have O_x := Lib.hid (o_x.base BB.out.size)
  clear o_x
  replace B := Lib.hid (B.out.trans (bw1.mono B.out.size))
  replace BB := Lib.hid (BB.out.trans (bw1.mono BB.out.size))
  clear bw1
  have D9 := (D_r.out.below BB.out).alloc (.cells #[.int .i64 1] 3)
  have B9 := B.out.alloc B.out.size (.cells #[.int .i64 1] 3)
  have hs9 := BB.out.size
  have oo : OwnR (w1.alloc (.cells #[.int .i64 1] 3)) W0.heap.size (.slice a_x (ofL n).length c_x) (ofL n) (.slice (some ⟨w1.heap.size, 0, none⟩) 1 1) [1] := ⟨O_x.out.alloc _, OwnI.lit1 _ _ 1 hs9, fun g g' e1 e2 e3 => by have h1 := (O_x.out.lt g e1).2; have h2 : w1.heap.size = g' := (by simpa [Value.ownBlock] using e2); omega⟩
  obtain ⟨e1, e2⟩ := rat_end (b' := ofB n) B9 D9 oo (by decide) (by have := SZ.out; omega) (by omega) (.slice a_x (ofL n).length c_x) (.slice (some ⟨w1.heap.size, 0, none⟩) 1 1)
  have k0 := D9.c0; have k1 := D9.c1; have k2 := D9.c2; have k3 := D9.f 0; have k4 := D9.f 1; have k5 := D9.f 2
  have D8 := Rx.set3 (b' := ofB n) (v' := .slice a_x (ofL n).length c_x) (d' := .slice (some ⟨w1.heap.size, 0, none⟩) 1 1) D9
  have hc0 := D8.c0; have hc1 := D8.c1; have hc2 := D8.c2
  go_wp2
  exact bodyPost_ret (v := .agg #[.bool (ofB n), .slice a_x (ofL n).length c_x, .slice (some ⟨w1.heap.size, 0, none⟩) 1 1]) (by simp [results, Tryz.results59, go_sem, hc0, hc1, hc2]) rfl ⟨_, _, rfl, e1, e2⟩

def oneL : List Int := [1]
theorem spec_ratFromIntL (n : Int) (w : World) (hn : -9223372036854775808 ≤ n ∧ n ≤ 9223372036854775807) :
    Calls Tryz.prog 82 #[.int .i64 n] w fun r w' => ∃ v dd, r = .returned (.agg #[.bool (ofB n), v, dd]) ∧ OwnR w' w.heap.size v (ofL n) dd oneL ∧ Below w.heap.size w w' := by unfold oneL; exact spec_ratFromInt n w hn

theorem impl_ratFromIntL (n : Int) (w : World) (hn : -9223372036854775808 ≤ n ∧ n ≤ 9223372036854775807) :
    Calls Tryz.prog 59 #[.int .i64 n] w fun r w' => ∃ v dd, r = .returned (.agg #[.bool (ofB n), v, dd]) ∧ OwnR w' w.heap.size v (ofL n) dd oneL ∧ Below w.heap.size w w' := by unfold oneL; exact impl_ratFromInt n w hn

end Go.Proofs.YtlepgkkpopjgoaaGreat
