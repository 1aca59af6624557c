/- RankOf of both sides. -/
import Derived.Test.YtlepgkkpopjgoaaGreatZElRun
namespace Go.Proofs.YtlepgkkpopjgoaaGreat
open Go.RowKit Go.WideShapes Go.ChangeShapes
set_option linter.unusedVariables false
set_option linter.unusedSimpArgs false
/-- the number of pivots, -1 where the reduction fails -/
def rkV (r c : Int) (L : List Fr) : Int := if rdB r c L then ((rdP r c L).length : Int) else -1
set_option maxRecDepth 100000 in
set_option maxHeartbeats 1000000 in
theorem spec_rankM (r c : Int) (v : Value) (L : List Fr) (w : World) (h : RatsAt w v L) :
    Calls Tryz.prog 36 #[.agg #[.int .i64 r, .int .i64 c, v]] w fun e w' => e = .returned (.int .i64 (rkV r c L)) ∧ Below w.heap.size w w' := by
  obtain ⟨a, cap, rfl, hc, hm, hr⟩ := h
  have HR := Lib.hid (show RatsAt w (.slice a L.length cap) L from ⟨a, cap, rfl, hc, hm, hr⟩)
  clear hr hc hm
  obtain ⟨n, hnn⟩ : ∃ n, L.length = n := ⟨_, rfl⟩
  rw [hnn] at HR ⊢
  clear hnn
  obtain ⟨ZB, hZB⟩ : ∃ z, z = rdB r c L := ⟨_, rfl⟩
  obtain ⟨ZP, hZP⟩ : ∃ z, z = rdP r c L := ⟨_, rfl⟩
  have HK := Lib.hid (show rkV r c L = if ZB then (ZP.length : Int) else -1 by unfold rkV; rw [← hZB, ← hZP])
  have CR := Lib.hid (fun W (hW : Below w.heap.size w W) => spec_reduceM r c _ L W (HR.out.below hW))
  rw [← hZB, ← hZP] at CR
  obtain ⟨ZV, hZV⟩ : ∃ z, z = rkV r c L := ⟨_, rfl⟩
  rw [← hZV] at HK ⊢
  clear hZB hZP hZV
  go_enter Tryz.func36, Tryz.ntmps36
  go_wp2_with fail
  obtain ⟨W0, hW0⟩ : ∃ x, x = w.alloc (.cells #[.int .i64 r, .int .i64 c, .slice a n cap] 25) := ⟨_, rfl⟩
  have D := Lib.hid (show B3 W0 w.heap.size 25 (.int .i64 r) (.int .i64 c) (.slice a n cap) by rw [hW0]; exact B3.new _ _ _ _ _)
  have B0 := Lib.hid (show Below w.heap.size w W0 by rw [hW0]; exact (Below.refl _ _).alloc (Nat.le_refl _) _)
  rw [← hW0]
  clear hW0
  try (have d0 := D.out.c0; have d1 := D.out.c1; have d2 := D.out.c2; go_wp2_with fail)
  refine (CR.out W0 B0.out).mono ?_
  rintro e w1 ⟨u, xs, pv, rfl, o1, o2, dj, b1⟩
  obtain ⟨a1, c1, rfl⟩ := o1.slice
  obtain ⟨a2, c2, rfl⟩ := o2.slice
  replace B0 := Lib.hid (B0.out.trans (b1.mono B0.out.size))
  clear o1 o2 dj b1 CR
  have BA := Lib.hid (fun o => B0.out.alloc B0.out.size o)
  cases ZB with
  | true =>
    go_wp2
    go_ret
    exact ⟨by rw [HK.out]; rfl, BA.out _⟩
  | false =>
    go_wp2
    go_ret
    exact ⟨by rw [HK.out]; rfl, BA.out _⟩

set_option maxRecDepth 100000 in
set_option maxHeartbeats 1000000 in
theorem impl_rankM (r c : Int) (v : Value) (L : List Fr) (w : World) (h : RatsAt w v L) :
    Calls Tryz.prog 17 #[.agg #[.int .i64 r, .int .i64 c, v]] w fun e w' => e = .returned (.int .i64 (rkV r c L)) ∧ Below w.heap.size w w' := by
  obtain ⟨a, cap, rfl, hc, hm, hr⟩ := h
  have HR := Lib.hid (show RatsAt w (.slice a L.length cap) L from ⟨a, cap, rfl, hc, hm, hr⟩)
  clear hr hc hm
  obtain ⟨n, hnn⟩ : ∃ n, L.length = n := ⟨_, rfl⟩
  rw [hnn] at HR ⊢
  clear hnn
  obtain ⟨ZB, hZB⟩ : ∃ z, z = rdB r c L := ⟨_, rfl⟩
  obtain ⟨ZP, hZP⟩ : ∃ z, z = rdP r c L := ⟨_, rfl⟩
  have HK := Lib.hid (show rkV r c L = if ZB then (ZP.length : Int) else -1 by unfold rkV; rw [← hZB, ← hZP])
  have CR := Lib.hid (fun W (hW : Below w.heap.size w W) => impl_reduceM r c _ L W (HR.out.below hW))
  rw [← hZB, ← hZP] at CR
  obtain ⟨ZV, hZV⟩ : ∃ z, z = rkV r c L := ⟨_, rfl⟩
  rw [← hZV] at HK ⊢
  clear hZB hZP hZV
  go_enter Tryz.func17, Tryz.ntmps17
  go_wp2_with fail
  obtain ⟨W0, hW0⟩ : ∃ x, x = w.alloc (.cells #[.int .i64 r, .int .i64 c, .slice a n cap] 25) := ⟨_, rfl⟩
  have D := Lib.hid (show B3 W0 w.heap.size 25 (.int .i64 r) (.int .i64 c) (.slice a n cap) by rw [hW0]; exact B3.new _ _ _ _ _)
  have B0 := Lib.hid (show Below w.heap.size w W0 by rw [hW0]; exact (Below.refl _ _).alloc (Nat.le_refl _) _)
  rw [← hW0]
  clear hW0
  try (have d0 := D.out.c0; have d1 := D.out.c1; have d2 := D.out.c2; go_wp2_with fail)
  refine (CR.out W0 B0.out).mono ?_
  rintro e w1 ⟨u, xs, pv, rfl, o1, o2, dj, b1⟩
  obtain ⟨a1, c1, rfl⟩ := o1.slice
  obtain ⟨a2, c2, rfl⟩ := o2.slice
  replace B0 := Lib.hid (B0.out.trans (b1.mono B0.out.size))
  clear o1 o2 dj b1 CR
  have BA := Lib.hid (fun o => B0.out.alloc B0.out.size o)
  cases ZB with
  | true =>
    go_wp2
    go_ret
    exact ⟨by rw [HK.out]; rfl, BA.out _⟩
  | false =>
    go_wp2
    go_ret
    exact ⟨by rw [HK.out]; rfl, BA.out _⟩

end Go.Proofs.YtlepgkkpopjgoaaGreat
