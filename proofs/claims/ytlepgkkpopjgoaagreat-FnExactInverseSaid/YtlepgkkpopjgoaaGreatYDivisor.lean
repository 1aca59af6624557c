/- Divisor: Lead Steps GcdSpec Euclid Gcd GcdLaw. -/
import Derived.Test.YtlepgkkpopjgoaaGreatYSums
import Derived.Test.YtlepgkkpopjgoaaGreatYNumb
import Derived.BigQuiet
import Derived.Deep.QuietTactic
import Derived.Test.YtlepgkkpopjgoaaGreatYBase
import Derived.Deep.LoopGhost
import Derived.Deep.CutBlock
import Derived.Deep.CutRange
import Derived.RegionTactic
import Derived.BigRegion
import Derived.RangeFuncBox
import Derived.Test.YtlepgkkpopjgoaaGreatYQuot2
import Derived.Deep.RegionHeld3
namespace Go.Proofs.YtlepgkkpopjgoaaGreat
set_option maxRecDepth 100000
set_option linter.unusedVariables false
set_option linter.unusedSimpArgs false
open Go.RowKit
attribute [local go_sem] Oper.semAt_some
theorem lead_eq {x k u c : Nat} (hu : u * c = 1000000000) (hx : x < pw (k + 3)) (hd : dig x (k + 2) < u) :
    (dig x (k + 2) * 1000000000 + dig x (k + 1)) * c + dig x k / u = x / (pw k * u) ∧ (dig x (k + 2) * 1000000000 + dig x (k + 1)) * c + dig x k / u < 1000000000000000000 ∧ (dig x (k + 2) * 1000000000 + dig x (k + 1)) * c ≤ 1000000000000000000 := by
  obtain ⟨Y, hY⟩ : ∃ Y, x / pw k = Y := ⟨_, rfl⟩
  have hYl : Y < 1000000000 * 1000000000 * 1000000000 := by
    rw [← hY]
    refine Nat.div_lt_of_lt_mul ?_
    have : pw (k + 3) = pw k * (1000000000 * 1000000000 * 1000000000) := by rw [pw_succ, pw_succ, pw_succ]; simp only [Nat.mul_assoc]
    rw [← this]; exact hx
  have d0 : dig x k = Y % 1000000000 := by rw [← hY]; rfl
  have d1 : dig x (k + 1) = Y / 1000000000 % 1000000000 := by rw [← hY, Nat.div_div_eq_div_mul, ← pw_succ]; rfl
  have d2 : dig x (k + 2) = Y / 1000000000 / 1000000000 := by
    have h1 : dig x (k + 2) = Y / 1000000000 / 1000000000 % 1000000000 := by rw [← hY, Nat.div_div_eq_div_mul, Nat.div_div_eq_div_mul, show pw k * (1000000000 * 1000000000) = pw (k + 2) by rw [pw_succ, pw_succ, Nat.mul_assoc]]; rfl
    rw [h1]; exact Nat.mod_eq_of_lt (by omega)
  have hu0 : 0 < u := by rcases Nat.eq_zero_or_pos u with h | h; · rw [h] at hu; omega
                         · exact h
  obtain ⟨a, ha⟩ : ∃ a, dig x (k + 2) * 1000000000 + dig x (k + 1) = a := ⟨_, rfl⟩
  have hY2 : Y = a * 1000000000 + dig x k := by rw [← ha, d0, d1, d2]; omega
  have h0 : dig x k < 1000000000 := dig_lt _ _
  have h1 : dig x (k + 1) < 1000000000 := dig_lt _ _
  have hab : a + 1 ≤ u * 1000000000 := by
    have : (dig x (k + 2) + 1) * 1000000000 ≤ u * 1000000000 := Nat.mul_le_mul_right _ hd
    omega
  have hac : a * c + c ≤ 1000000000 * 1000000000 := by
    have h2 : (a + 1) * c ≤ u * 1000000000 * c := Nat.mul_le_mul_right _ hab
    have h3 : u * 1000000000 * c = 1000000000 * 1000000000 := by rw [Nat.mul_right_comm, hu]
    have h4 : (a + 1) * c = a * c + c := Nat.succ_mul a c
    omega
  have hq : dig x k / u < c := by
    refine Nat.div_lt_of_lt_mul ?_
    rw [hu]; exact h0
  rw [ha]
  refine ⟨?_, by omega, by omega⟩
  rw [← Nat.div_div_eq_div_mul, hY, hY2, ← hu, show a * (u * c) + dig x k = dig x k + a * c * u by rw [Nat.mul_comm u c, ← Nat.mul_assoc]; omega, Nat.add_mul_div_right _ _ hu0, Nat.add_comm]
set_option maxHeartbeats 1000000 in
theorem impl_leading (v : Value) (x k u c : Nat) (w : World) (h : RowOf iV w v (limI x)) (hu : u * c = 1000000000) (hx : x < pw (k + 3)) (hd : dig x (k + 2) < u) (hk : k ≤ 1000) :
  Calls Tryz.prog 186 #[v, .int .i64 ((k : Int) + 2), .int .i64 u] w fun e w' => e = .returned (.int .i64 ((x / (pw k * u) : Nat) : Int)) ∧ ∃ q, w' = w.drewN q := by
 have HE := lead_eq hu hx hd
 have hu0 : 0 < u := by omega
 have AT : Hid (∀ (W' : World) (z : Int), RowOf iV W' v (limI x) → 0 ≤ z → z ≤ 2000 → Calls Tryz.prog 194 #[v, .int .i64 z] W' fun e w' => e = .returned (.int .i64 (dig x z.toNat : Nat)) ∧ w' = W') := fun W' z hW h0 h1 => by
  have := at_dig v x z.toNat W' hW (by omega)
  rw [show ((z.toNat : Nat) : Int) = z by omega] at this
  exact this
 have RA := Lib.hid h
 have h0 : dig x k < 1000000000 := dig_lt _ _
 have h1 : dig x (k + 1) < 1000000000 := dig_lt _ _
 have h2 : dig x (k + 2) < 1000000000 := dig_lt _ _
 obtain ⟨d0, e0⟩ : ∃ d, dig x k = d := ⟨_, rfl⟩
 obtain ⟨d1, e1⟩ : ∃ d, dig x (k + 1) = d := ⟨_, rfl⟩
 obtain ⟨d2, e2⟩ : ∃ d, dig x (k + 2) = d := ⟨_, rfl⟩
 rw [e0] at HE h0
 rw [e1] at HE h1
 rw [e2] at HE h2
 have f0 : dig x ((k : Int)).toNat = d0 := by rw [← e0]; rfl
 have f1 : dig x ((k : Int) + 2 - 1).toNat = d1 := by rw [← e1]; congr 1; omega
 have f2 : dig x ((k : Int) + 2).toNat = d2 := by rw [← e2]; congr 1
 have f3 : dig x ((k : Int) + 2 - 2).toNat = d0 := by rw [← e0]; congr 1; omega
 have hcb : c ≤ 1000000000 := by rw [← hu]; exact Nat.le_mul_of_pos_left c hu0
 have hci : (1000000000 : Int) / (u : Int) = (c : Int) := by
  have h9 : (1000000000 : Int) = (u : Int) * (c : Int) := by rw [← Int.natCast_mul, hu]; rfl
  rw [h9]
  exact Int.mul_ediv_cancel_left _ (by omega)
 obtain ⟨p, hp⟩ : ∃ p, (d2 * 1000000000 + d1) * c = p := ⟨_, rfl⟩
 obtain ⟨r, hr⟩ : ∃ r, d0 / u = r := ⟨_, rfl⟩
 rw [hp, hr] at HE
 have hpi : ((d2 : Int) * 1000000000 + (d1 : Int)) * (c : Int) = (p : Int) := by rw [← hp]; simp
 have hri : (d0 : Int) / (u : Int) = (r : Int) := by rw [← hr]; simp
 have hct : (1000000000 : Int).tdiv (u : Int) = (c : Int) := by rw [Int.tdiv_eq_ediv_of_nonneg (by omega)]; exact hci
 have hrt : (d0 : Int).tdiv (u : Int) = (r : Int) := by rw [Int.tdiv_eq_ediv_of_nonneg (by omega)]; exact hri
 have huz : ((u : Int) == 0) = false := by simp; omega
 have hu3 : (0 : Int) < (u : Int) := by omega
 have hE := Lib.hid HE.1
 have hE1 := HE.2.1
 have hE2 := HE.2.2
 obtain ⟨a, cap, rfl, c1, c2, c3⟩ := h
 clear c1 c2 c3 HE hp hr hu hx hd
 rw [limI_length] at AT RA ⊢
 go_enter Tryz.func186, Tryz.ntmps186
 go_wp2
 go_quiet ((go_at_call 194; exact Calls.quiet_of_same (AT.out _ _ RA.out (by omega) (by omega))))
 have hw : wrap64 (wrap64 (wrap64 ((d2 : Int) * 1000000000 + (d1 : Int)) * (c : Int)) + (r : Int)) = ((p + r : Nat) : Int) := by
  rw [IntWalk.wrap64_in ((d2 : Int) * 1000000000 + (d1 : Int)) ⟨by omega, by omega⟩, hpi, IntWalk.wrap64_in (p : Int) ⟨by omega, by omega⟩, IntWalk.wrap64_in ((p : Int) + (r : Int)) ⟨by omega, by omega⟩]
  simp
 have HW := Lib.hid hw
 clear hw
 go_wp2
 go_ret
 exact ⟨by rw [← hE.out, ← HW.out]; rfl, _, rfl⟩
end Go.Proofs.YtlepgkkpopjgoaaGreat
namespace Go.Proofs.YtlepgkkpopjgoaaGreat
set_option maxRecDepth 100000
set_option linter.unusedVariables false
set_option linter.unusedSimpArgs false
open Go.RowKit
attribute [local go_sem] Oper.semAt_some
def Box2 (W : World) (B : Nat) (a b : Int) : Prop := W.heap[B]? = some (.cells #[.int .i64 a, .int .i64 b] 171 (0, 0))
theorem Box2.cell0 {W : World} {B : Nat} {a b : Int} (h : Box2 W B a b) : W.cell? ⟨B, 0, none⟩ = some (.int .i64 a) := by simp [World.cell?, show W.heap[B]? = _ from h]
theorem Box2.cell1 {W : World} {B : Nat} {a b : Int} (h : Box2 W B a b) : W.cell? ⟨B, 1, none⟩ = some (.int .i64 b) := by simp [World.cell?, show W.heap[B]? = _ from h]
theorem Box2.frozen {W : World} {B : Nat} {a b : Int} (h : Box2 W B a b) (k : Nat) : W.frozen? ⟨B, k, none⟩ = false := by simp [World.frozen?, show W.heap[B]? = _ from h]
theorem Box2.lt {W : World} {B : Nat} {a b : Int} (h : Box2 W B a b) : B < W.heap.size := (Array.getElem?_eq_some_iff.1 h).1
theorem Box2.new (W : World) (a b : Int) : Box2 (W.alloc (.cells #[.int .i64 a, .int .i64 b] 171)) W.heap.size a b := World.alloc_heap_new W _
theorem Box2.kept {W W' : World} {B : Nat} {a b : Int} {row : Option Nat} (h : Box2 W B a b) (hg : W.grownBy W' row) (hne : some B ≠ row) : Box2 W' B a b := (hg.block B h.lt hne).trans h
theorem Box2.alloc {W : World} {B : Nat} {a b : Int} (h : Box2 W B a b) (o : Obj) : Box2 (W.alloc o) B a b := h.kept (World.grownBy_alloc W o none) (by simp)
theorem Box2.set0 {W : World} {B : Nat} {a b : Int} (h : Box2 W B a b) (a' : Int) : Box2 (W.setCell ⟨B, 0, none⟩ (.int .i64 a')) B a' b := by
 obtain ⟨hlt, hk⟩ := Array.getElem?_eq_some_iff.1 h
 show (W.heap.modify B _)[B]? = _
 rw [Array.getElem?_eq_getElem (by rw [Array.size_modify]; exact hlt), Array.getElem_modify_self, hk]
 rfl
theorem Box2.set1 {W : World} {B : Nat} {a b : Int} (h : Box2 W B a b) (b' : Int) : Box2 (W.setCell ⟨B, 1, none⟩ (.int .i64 b')) B a b' := by
 obtain ⟨hlt, hk⟩ := Array.getElem?_eq_some_iff.1 h
 show (W.heap.modify B _)[B]? = _
 rw [Array.getElem?_eq_getElem (by rw [Array.size_modify]; exact hlt), Array.getElem_modify_self, hk]
 rfl
theorem Box2.set {W : World} {B : Nat} {a b : Int} (h : Box2 W B a b) (a' b' : Int) : Box2 ((W.setCell ⟨B, 0, none⟩ (.int .i64 a')).setCell ⟨B, 1, none⟩ (.int .i64 b')) B a' b' := (h.set0 a').set1 b'
theorem Box2.other {W : World} {B C : Nat} {a b : Int} (h : Box2 W B a b) (hne : B ≠ C) (a' b' : Int) : Box2 ((W.setCell ⟨C, 0, none⟩ (.int .i64 a')).setCell ⟨C, 1, none⟩ (.int .i64 b')) B a b :=
 (h.kept (setCell_grown W C 0 (.int .i64 a')) (fun e => hne (by injection e))).kept (setCell_grown (W.setCell ⟨C, 0, none⟩ (.int .i64 a')) C 1 (.int .i64 b')) (fun e => hne (by injection e))
theorem Box2.load {W : World} {B : Nat} {a b : Int} (h : Box2 W B a b) : (loadVar 171 ⟨B, 0, none⟩).run Tryz.prog W = .ok (.agg #[.int .i64 a, .int .i64 b]) W :=
 run_loadVar_row W B 171 171 #[.int .i64 a, .int .i64 b] (0, 0) _ h Tryz.underlying171 rfl (by kernel_rfl)
theorem results_cells {fn : Func} {p u : Tmp} (h : fn.results = #[.cell p 171, .cell u 171]) (tmps : Array Value) (w : World) (g g' : Nat) (a b a' b' : Int)
  (hp : tmps.getD p undef = .pointer (some ⟨g, 0, none⟩)) (hp2 : tmps.getD u undef = .pointer (some ⟨g', 0, none⟩)) (hg : Box2 w g a b) (hg2 : Box2 w g' a' b') :
  (results fn tmps).run Tryz.prog w = .ok (.tuple #[.agg #[.int .i64 a, .int .i64 b], .agg #[.int .i64 a', .int .i64 b']]) w := by
 have hp' : tmps[p]?.getD undef = .pointer (some ⟨g, 0, none⟩) := by simpa using hp
 have hp2' : tmps[u]?.getD undef = .pointer (some ⟨g', 0, none⟩) := by simpa using hp2
 simp [results, h, hp', hp2', asAddr, Sem.run_bind, Result.andThen, hg.load, hg2.load]
set_option maxHeartbeats 2000000 in
theorem impl_steps (a b S x0 y0 al be : Nat) (w : World) (hS : 0 < S) (ha : a = x0 * S + al) (hal : al < S) (hb : b = y0 * S + be) (hbe : be < S) (hab : b ≤ a) (hxy : y0 ≤ x0) (hx : x0 < 1000000000000000000) :
  Calls Tryz.prog 185 #[.int .i64 x0, .int .i64 y0] w fun e w' => ∃ f0 f1 s0 s1 : Int, e = .returned (.tuple #[.agg #[.int .i64 f0, .int .i64 f1], .agg #[.int .i64 s0, .int .i64 s1]]) ∧ (∃ (x y : Int) (A B : Nat), Leh a b S x0 y0 x y f0 f1 s0 s1 A B) ∧ Below w.heap.size w w' := by
 have HST := Lib.hid (fun (x y f0 f1 s0 s1 : Int) (A B : Nat) (h : Leh a b S x0 y0 x y f0 f1 s0 s1 A B) (g0 : 0 < y + s0) (g1 : 0 < y + s1) (q : Int) (q0 : q = (x + f0) / (y + s0)) (q1 : q = (x + f1) / (y + s1)) => h.step hS ha hal hb hbe hx (by omega) g0 g1 q0 q1)
 have HS0 := Lib.hid (Leh.start (a := a) (b := b) (S := S) hab hxy hx)
 clear hS ha hal hb hbe hab
 have B0 := Lib.hid ((((Box2.new w 0 0).alloc (.cells #[.int .i64 0, .int .i64 0] 171)).alloc (.cells #[.int .i64 1, .int .i64 0] 171)).alloc (.cells #[.int .i64 0, .int .i64 1] 171))
 have B1 := Lib.hid (((Box2.new (w.alloc (.cells #[.int .i64 0, .int .i64 0] 171)) 0 0).alloc (.cells #[.int .i64 1, .int .i64 0] 171)).alloc (.cells #[.int .i64 0, .int .i64 1] 171))
 have B2 := Lib.hid ((Box2.new ((w.alloc (.cells #[.int .i64 0, .int .i64 0] 171)).alloc (.cells #[.int .i64 0, .int .i64 0] 171)) 1 0).alloc (.cells #[.int .i64 0, .int .i64 1] 171))
 have B3 := Lib.hid (Box2.new (((w.alloc (.cells #[.int .i64 0, .int .i64 0] 171)).alloc (.cells #[.int .i64 0, .int .i64 0] 171)).alloc (.cells #[.int .i64 1, .int .i64 0] 171)) 0 1)
 have BL := Lib.hid (((((Below.refl w.heap.size w).alloc (Nat.le_refl _) (.cells #[.int .i64 0, .int .i64 0] 171)).alloc (by simp) (.cells #[.int .i64 0, .int .i64 0] 171)).alloc (by simp; omega) (.cells #[.int .i64 1, .int .i64 0] 171)).alloc (by simp; omega) (.cells #[.int .i64 0, .int .i64 1] 171))
 simp only [World.size_alloc] at B0 B1 B2 B3
 obtain ⟨h, hh⟩ : ∃ h, w.heap.size = h := ⟨_, rfl⟩
 rw [hh] at B0 B1 B2 B3 BL ⊢
 go_enter Tryz.func185, Tryz.ntmps185
 go_upto_block 0 with fail
 generalize (((w.alloc (.cells #[.int .i64 0, .int .i64 0] 171)).alloc (.cells #[.int .i64 0, .int .i64 0] 171)).alloc (.cells #[.int .i64 1, .int .i64 0] 171)).alloc (.cells #[.int .i64 0, .int .i64 1] 171) = W1 at B0 B1 B2 B3 BL ⊢
 go_cut [0, 1, 8] from 9 (fun _ _ _ wc => ∃ f0 f1 s0 s1 : Int, Hid (Box2 wc h 0 0) ∧ Hid (Box2 wc (h + 1) 0 0) ∧ Hid (Box2 wc (h + 1 + 1) f0 f1) ∧ Hid (Box2 wc (h + 1 + 1 + 1) s0 s1) ∧ Hid (Below h w wc) ∧ ∃ (x y : Int) (A B : Nat), Hid (Leh a b S x0 y0 x y f0 f1 s0 s1 A B))
 case first =>
  go_wp2
  go_loopw [0, 1, 8] (fun xv yv qv wr => ∃ (x y f0 f1 s0 s1 : Int) (A B : Nat), xv = .int .i64 x ∧ yv = .int .i64 y ∧ Hid (Leh a b S x0 y0 x y f0 f1 s0 s1 A B) ∧ Hid (Box2 wr h 0 0) ∧ Hid (Box2 wr (h + 1) 0 0) ∧ Hid (Box2 wr (h + 1 + 1) f0 f1) ∧ Hid (Box2 wr (h + 1 + 1 + 1) s0 s1) ∧ Hid (Below h w wr)) (fun _ yv _ _ => (intOf yv).toNat)
  case atStart => exact ⟨x0, y0, 1, 0, 0, 1, a, b, rfl, rfl, HS0, B0, B1, B2, B3, BL⟩
  case round =>
   obtain ⟨x, y, f0, f1, s0, s1, A, B, rfl, rfl, HL, K0, K1, K2, K3, KB⟩ := hrel
   have l1 := HL.out.x1
   have l2 := HL.out.x2
   have l3 := HL.out.y1
   have l4 := HL.out.y2
   have l5 := HL.out.xf0
   have l6 := HL.out.xf1
   have l7 := HL.out.f0b.1
   have l8 := HL.out.f0b.2
   have l9 := HL.out.f1b.1
   have l10 := HL.out.f1b.2
   have l11 := HL.out.s0b.1
   have l12 := HL.out.s0b.2
   have l13 := HL.out.s1b.1
   have l14 := HL.out.s1b.2
   have c20 := K2.out.cell0
   have c21 := K2.out.cell1
   have c30 := K3.out.cell0
   have c31 := K3.out.cell1
   have z2 := fun k => K2.out.frozen k
   have z3 := fun k => K3.out.frozen k
   by_cases t0 : 0 < y + s0
   ·by_cases t1 : 0 < y + s1
    ·have HQ0 := Int.ediv_nonneg l5 (Int.le_of_lt t0)
     have HQ1 := Int.ediv_le_self (y + s0) l5
     have HR0 := Int.ediv_nonneg l6 (Int.le_of_lt t1)
     have HR1 := Int.ediv_le_self (y + s1) l6
     have hqt : (x + f0).tdiv (y + s0) = (x + f0) / (y + s0) := Int.tdiv_eq_ediv_of_nonneg l5
     have hrt : (x + f1).tdiv (y + s1) = (x + f1) / (y + s1) := Int.tdiv_eq_ediv_of_nonneg l6
     have z0 : (y + s0 == 0) = false := by simp; omega
     have z1 : (y + s1 == 0) = false := by simp; omega
     have HS1 := Lib.hid (fun q q0 q1 => HST.out x y f0 f1 s0 s1 A B HL.out t0 t1 q q0 q1)
     obtain ⟨q, hq⟩ : ∃ q, (x + f0) / (y + s0) = q := ⟨_, rfl⟩
     obtain ⟨r, hr⟩ : ∃ r, (x + f1) / (y + s1) = r := ⟨_, rfl⟩
     rw [hq] at HQ0 HQ1 hqt
     rw [hr] at HR0 HR1 hrt
     have HS2 := Lib.hid (HS1.out q hq.symm)
     rw [hr] at HS2
     by_cases e : q = r
     ·subst e
      have HS3 := HS2.out rfl
      obtain ⟨p, hp⟩ : ∃ p, q * y = p := ⟨_, rfl⟩
      obtain ⟨m0, hm0⟩ : ∃ m, q * s0 = m := ⟨_, rfl⟩
      obtain ⟨m1, hm1⟩ : ∃ m, q * s1 = m := ⟨_, rfl⟩
      rw [hp, hm0, hm1] at HS3
      have p1 := HS3.2.1
      have p2 := HS3.2.2.2.1
      have p3 := HS3.2.2.2.2.1
      have p4 := HS3.2.2.2.2.2.1.1
      have p5 := HS3.2.2.2.2.2.1.2
      have p6 := HS3.2.2.2.2.2.2.1
      have p7 := HS3.2.2.2.2.2.2.2
      have HN := Lib.hid HS3.1
      clear HS3 HS2 HS1
      go_upto_region 6 with fail
      clear hq hr hqt hrt z0 z1
      have z20 := z2 0
      have z21 := z2 1
      have z30 := z3 0
      have z31 := z3 1
      clear z2 z3
      have W1f : Hid (∀ V : World, V = ((((wr.setCell ⟨h + 1 + 1, 0, none⟩ (.int .i64 s0)).setCell ⟨h + 1 + 1, 1, none⟩ (.int .i64 s1)).setCell ⟨h + 1 + 1 + 1, 0, none⟩ (.int .i64 (f0 - m0))).setCell ⟨h + 1 + 1 + 1, 1, none⟩ (.int .i64 (f1 - m1))).drew → Hid (Box2 V h 0 0) ∧ Hid (Box2 V (h + 1) 0 0) ∧ Hid (Box2 V (h + 1 + 1) s0 s1) ∧ Hid (Box2 V (h + 1 + 1 + 1) (f0 - m0) (f1 - m1)) ∧ Hid (Below h w V)) := by
       rintro V rfl
       exact ⟨(K0.out.other (by omega) _ _).other (by omega) _ _, (K1.out.other (by omega) _ _).other (by omega) _ _, (K2.out.set s0 s1).other (by omega) _ _, (K3.out.other (by omega) _ _).set _ _,
        ((((KB.out.setCell (p := ⟨h + 1 + 1, 0, none⟩) (by simp; omega) _).setCell (p := ⟨h + 1 + 1, 1, none⟩) (by simp; omega) _).setCell (p := ⟨h + 1 + 1 + 1, 0, none⟩) (by simp; omega) _).setCell (p := ⟨h + 1 + 1 + 1, 1, none⟩) (by simp; omega) _).drew⟩
      go_region
      all_goals go_wp2
      all_goals go_roundw
      case rel => exact ⟨y, x - p, s0, s1, f0 - m0, f1 - m1, B, A % B, rfl, rfl, HN, W1f.out _ rfl⟩
      case measure => simp [intOf]; omega
     ·have eb : (q != r) = true := by simp; exact e
      clear HS2 HS1
      go_wp2
      go_meet
      case rel => exact ⟨f0, f1, s0, s1, K0, K1, K2, K3, KB, x, y, A, B, HL⟩
    ·go_wp2
     go_meet
     case rel => exact ⟨f0, f1, s0, s1, K0, K1, K2, K3, KB, x, y, A, B, HL⟩
   ·go_wp2
    go_meet
    case rel => exact ⟨f0, f1, s0, s1, K0, K1, K2, K3, KB, x, y, A, B, HL⟩
 obtain ⟨f0, f1, s0, s1, K0, K1, K2, K3, KB, hL⟩ := hcut
 have HL := Lib.hid hL
 clear hL B0 B1 B2 B3 BL HS0 HST
 have c00 := K0.out.cell0
 have c01 := K0.out.cell1
 have c10 := K1.out.cell0
 have c11 := K1.out.cell1
 have c20 := K2.out.cell0
 have c21 := K2.out.cell1
 have c30 := K3.out.cell0
 have c31 := K3.out.cell1
 have z00 := K0.out.frozen 0
 have z01 := K0.out.frozen 1
 have z10 := K1.out.frozen 0
 have z11 := K1.out.frozen 1
 go_upto_region 7 with fail
 go_region
 all_goals go_wp2
 obtain ⟨x, y, A, B, hL⟩ := HL.out
 refine bodyPost_ret (v := .tuple #[.agg #[.int .i64 f0, .int .i64 f1], .agg #[.int .i64 s0, .int .i64 s1]]) (results_cells rfl _ _ h (h + 1) f0 f1 s0 s1 rfl rfl ?_ ?_) rfl ⟨f0, f1, s0, s1, rfl, ⟨x, y, A, B, hL.out⟩, ?_⟩
 ·exact (K0.out.set f0 f1).other (by omega) s0 s1
 ·exact (K1.out.other (by omega) f0 f1).set s0 s1
 ·exact ((((KB.out.setCell (p := ⟨h, 0, none⟩) (by simp) _).setCell (p := ⟨h, 1, none⟩) (by simp) _).setCell (p := ⟨h + 1, 0, none⟩) (by simp) _).setCell (p := ⟨h + 1, 1, none⟩) (by simp) _).drew
end Go.Proofs.YtlepgkkpopjgoaaGreat
namespace Go.Proofs.YtlepgkkpopjgoaaGreat
set_option maxRecDepth 100000
set_option linter.unusedVariables false
set_option linter.unusedSimpArgs false
open Go.RowKit
attribute [local go_sem] Oper.semAt_some
theorem gcd_step (a b : Nat) : Nat.gcd b (a % b) = Nat.gcd a b := by rw [Nat.gcd_comm a b, Nat.gcd_rec b a, Nat.gcd_comm]
set_option maxHeartbeats 400000 in
theorem spec_plain (x y : Nat) (w : World) (hx : x ≤ 9223372036854775807) (hy : y ≤ 9223372036854775807) :
  Calls Tryz.prog 177 #[.int .i64 x, .int .i64 y] w fun e w' => ∃ v, e = .returned v ∧ OwnI w' w.heap.size v (limI (Nat.gcd x y)) ∧ Below w.heap.size w w' := by
 go_enter Tryz.func177, Tryz.ntmps177
 go_wp2
 go_loop [0, 1] (fun xv yv => ∃ a b : Nat, xv = .int .i64 a ∧ yv = .int .i64 b ∧ a ≤ 9223372036854775807 ∧ b ≤ 9223372036854775807 ∧ Hid (Nat.gcd a b = Nat.gcd x y)) (fun _ yv => (intOf yv).toNat)
 case atStart => exact ⟨x, y, rfl, rfl, hx, hy, rfl⟩
 case round =>
  obtain ⟨a, b, rfl, rfl, ha, hb, HG⟩ := hrel
  by_cases h0 : 0 < b
  ·have hm : ((a : Int) % (b : Int)) = ((a % b : Nat) : Int) := by simp
   have hmt : ((a : Int).tmod (b : Int)) = ((a % b : Nat) : Int) := by rw [Int.tmod_eq_emod_of_nonneg (by omega)]; simp
   have hbz : ((b : Int) == 0) = false := by simp; omega
   have hlt := Nat.mod_lt a h0
   have HS := Lib.hid ((gcd_step a b).trans HG.out)
   obtain ⟨r, hr⟩ : ∃ r, a % b = r := ⟨_, rfl⟩
   rw [hr] at hm hmt hlt HS
   clear hr
   go_wp2
   go_round
   case rel => exact ⟨b, r, by go_num, by go_num, hb, by omega, HS⟩
   case measure => simp [intOf]; omega
  ·obtain rfl : b = 0 := by omega
   have HE : Hid (a = Nat.gcd x y) := by have := HG.out; rw [Nat.gcd_zero_right] at this; exact this
   go_wp2_with (go_at_call 156; refine (spec_natOf_nat a w ha).mono ?_; rintro e w1 ⟨v, rfl, o, b⟩)
   go_ret
   exact ⟨_, rfl, by rw [← HE.out]; exact o, b⟩
set_option maxHeartbeats 1000000 in
theorem spec_gcd (va vb : Value) (x y : Nat) (w : World) (ha : RowOf iV w va (limI x)) (hb : RowOf iV w vb (limI y)) (hx : nlen x ≤ 60) (hy : nlen y ≤ 60) :
  Calls Tryz.prog 153 #[va, vb] w fun e w' => ∃ v, e = .returned v ∧ OwnI w' w.heap.size v (limI (Nat.gcd x y)) ∧ Below w.heap.size w w' := by
 have RA := Lib.hid ha
 have RB := Lib.hid hb
 have hlx : ([] : List Int).length + (limI x).length ≤ 1099511627776 := by rw [limI_length]; simp; omega
 have hly : ([] : List Int).length + (limI y).length ≤ 1099511627776 := by rw [limI_length]; simp; omega
 obtain ⟨aa, ca, rfl, e1, e2, e3⟩ := ha
 obtain ⟨ab, cb, rfl, e4, e5, e6⟩ := hb
 clear e1 e2 e3 e4 e5 e6
 have HY := Lib.hid (limI_length y)
 rw [limI_length] at RA ⊢
 rw [limI_length] at RB ⊢
 have LA := Lib.hid (OwnI.lit0 w)
 have BA := Lib.hid ((Below.refl w.heap.size w).alloc (Nat.le_refl _) (.cells #[] 3))
 go_enter Tryz.func153, Tryz.ntmps153
 go_upto_region 2 with (at_builtin; refine append_ints rfl _ _ 30 Tryz.underlying30 rfl w.heap.size _ _ [] (limI x) rfl LA.out rfl (rowOf_below RA.out BA.out) hlx BA.out.size ?_; intro v1 w1 h1 hg1)
 have b1 : Below w.heap.size w w1 := BA.out.grown hg1 BA.out.size (fun k hk => (LA.out.lt k hk).1)
 have O1 := Lib.hid h1
 rw [List.nil_append] at O1
 have RB1 := Lib.hid (rowOf_below RB.out b1)
 have LB := Lib.hid (OwnI.lit0 w1)
 have BB := Lib.hid ((Below.refl w1.heap.size w1).alloc (Nat.le_refl _) (.cells #[] 3))
 clear h1 hg1 LA BA
 obtain ⟨z1, hz1⟩ : ∃ z1, z1 = v1 := ⟨_, rfl⟩
 subst hz1
 go_wp2_with (at_builtin; refine append_ints rfl _ _ 30 Tryz.underlying30 rfl w1.heap.size _ _ [] (limI y) rfl LB.out rfl (rowOf_below RB1.out BB.out) hly BB.out.size ?_; intro v2 w2 h2 hg2)
 have b2 : Below w1.heap.size w1 w2 := BB.out.grown hg2 BB.out.size (fun k hk => (LB.out.lt k hk).1)
 have O2 := Lib.hid (h2.base b1.size)
 rw [List.nil_append] at O2
 have O1b := Lib.hid (O1.out.below b2)
 have B2 := Lib.hid (b1.trans (b2.mono b1.size))
 clear h2 hg2 LB BB O1 RA RB RB1 b1 b2
 obtain ⟨h, hh⟩ : ∃ h, w.heap.size = h := ⟨_, rfl⟩
 rw [hh] at O1b O2 B2 ⊢
 clear HY hlx hly
 go_loopg [5, 6] y (fun gk xv yv wr => ∃ a : Nat, Hid (OwnI wr h xv (limI a)) ∧ Hid (OwnI wr h yv (limI gk)) ∧ nlen a ≤ 60 ∧ nlen gk ≤ 60 ∧ Hid (Nat.gcd a gk = Nat.gcd x y) ∧ Hid (Below h w wr))
 case atStart => exact ⟨x, O1b, O2, hx, hy, rfl, B2⟩
 case round =>
  obtain ⟨a, OX, OY, ha, hb, HG, HB⟩ := hrel
  obtain ⟨px, cx, rfl, a1, a2, a3⟩ := OX.out.row
  obtain ⟨py, cy, rfl, a4, a5, a6⟩ := OY.out.row
  clear a1 a2 a3 a4 a5 a6
  rw [limI_length] at OX ⊢
  rw [limI_length] at OY ⊢
  have hsz : h ≤ wr.heap.size := by have := HB.out.size; omega
  by_cases hz : gk = 0
  ·subst hz
   have HE : Hid (a = Nat.gcd x y) := by have := HG.out; rw [Nat.gcd_zero_right] at this; exact this
   rw [nlen_zero] at OY ⊢
   go_wp2
   go_ret
   rw [hh]
   exact ⟨_, rfl, by rw [← HE.out]; exact OX.out, HB.out⟩
  ·have hn1 := (nlen_pos_iff gk).2 (by omega)
   by_cases h3 : nlen a < 3
   ·by_cases h4 : nlen gk < 3
    ·have TN : Hid (∀ (z : Nat) (W' : World) (v : Value), nlen z < 3 → RowOf iV W' v (limI z) → nlen z ≤ 60 → Calls Tryz.prog 176 #[v] W' fun e w' => e = .returned (.tuple #[.int .i64 z, .bool true]) ∧ Below W'.heap.size W' w') := fun z W' v hz3 hr h60 => by
      have h1 := spec_natToInt v (limI z) W' hr
      have h2 : z ≤ 9223372036854775807 := by have := (nlen_le_iff 2 z).1 (by omega); rw [pw_succ, pw_one] at this; omega
      rw [natToIntV_yes ((nlen_le_iff 60 z).1 h60), intR_yes h2] at h1
      exact h1
     have ma : a ≤ 9223372036854775807 := by have := (nlen_le_iff 2 a).1 (by omega); rw [pw_succ, pw_one] at this; omega
     have mb : gk ≤ 9223372036854775807 := by have := (nlen_le_iff 2 gk).1 (by omega); rw [pw_succ, pw_one] at this; omega
     have T1 := Lib.hid (TN.out a wr _ h3 OX.out.row ha)
     have T2 := Lib.hid (fun (W' : World) (hW : Below wr.heap.size wr W') => TN.out gk W' _ h4 (rowOf_below OY.out.row hW) hb)
     have T3 := Lib.hid (fun (W' : World) => spec_plain a gk W' ma mb)
     go_upto_region 6 with (go_at_call 176; refine T1.out.mono ?_; rintro e w3 ⟨rfl, b3⟩)
     go_upto_region 7 with (go_at_call 176; refine (T2.out _ b3).mono ?_; rintro e w4 ⟨rfl, b4⟩)
     go_wp2_with (go_at_call 177; refine (T3.out _).mono ?_; rintro e w5 ⟨v5, rfl, o5, b5⟩)
     go_ret
     have s34 := Nat.le_trans hsz b3.size
     have s45 := Nat.le_trans s34 b4.size
     rw [hh]
     exact ⟨_, rfl, by rw [← HG.out]; exact o5.base s45, ((HB.out.trans (b3.mono hsz)).trans (b4.mono s34)).trans (b5.mono s45)⟩
    ·have TD := Lib.hid (spec_div _ _ a gk wr OX.out.row OY.out.row (by omega) (by omega) (by omega))
     go_wp2_with (go_at_call 158; refine (TD.out).mono ?_; rintro e w3 ⟨v0, v1, rfl, o0, o1, ap, b3⟩)
     go_roundg (a % gk)
     case measure => exact Nat.mod_lt _ (by omega)
     case rel => exact ⟨gk, OY.out.below b3, o1.base hsz, hb, Nat.le_trans (nlen_mono (Nat.mod_le _ _)) ha, (gcd_step a gk).trans HG.out, HB.out.trans (b3.mono hsz)⟩
   ·have TD := Lib.hid (spec_div _ _ a gk wr OX.out.row OY.out.row (by omega) (by omega) (by omega))
    go_wp2_with (go_at_call 158; refine (TD.out).mono ?_; rintro e w3 ⟨v0, v1, rfl, o0, o1, ap, b3⟩)
    go_roundg (a % gk)
    case measure => exact Nat.mod_lt _ (by omega)
    case rel => exact ⟨gk, OY.out.below b3, o1.base hsz, hb, Nat.le_trans (nlen_mono (Nat.mod_le _ _)) ha, (gcd_step a gk).trans HG.out, HB.out.trans (b3.mono hsz)⟩
end Go.Proofs.YtlepgkkpopjgoaaGreat
namespace Go.Proofs.YtlepgkkpopjgoaaGreat
set_option maxRecDepth 100000
set_option linter.unusedVariables false
set_option linter.unusedSimpArgs false
open Go.RowKit
attribute [local go_sem] Oper.semAt_some
theorem ten_pow {j : Nat} (h : j ≤ 9) : 10 ^ j * 10 ^ (9 - j) = 1000000000 := by
 rw [← Nat.pow_add, show j + (9 - j) = 9 by omega]
theorem ten_le {j : Nat} (h : j ≤ 9) : 10 ^ j ≤ 1000000000 := Nat.pow_le_pow_right (n := 10) (by omega) h
theorem gcd_step' (a b : Nat) : Nat.gcd b (a % b) = Nat.gcd a b := by rw [Nat.gcd_comm a b, Nat.gcd_rec b a, Nat.gcd_comm]
theorem top_dig {x k : Nat} (h : x < pw (k + 3)) : dig x (k + 2) = x / pw (k + 2) := by
 show x / pw (k + 2) % 1000000000 = _
 refine Nat.mod_eq_of_lt (Nat.div_lt_of_lt_mul ?_)
 rw [← pw_succ]; exact h
set_option maxHeartbeats 4000000 in
theorem impl_euclid (va vb : Value) (a b k : Nat) (w : World) (ha : RowOf iV w va (limI a)) (hb : RowOf iV w vb (limI b)) (hab : b ≤ a) (h3 : 3 ≤ nlen b) (hk : nlen a = k + 3) (h60 : nlen a ≤ 60) :
  Calls Tryz.prog 169 #[va, vb] w fun e w' => ∃ (v0 v1 : Value), (∃ A B : Nat, e = .returned (.tuple #[v0, v1]) ∧ RowOf iV w' v0 (limI A) ∧ RowOf iV w' v1 (limI B) ∧ Nat.gcd A B = Nat.gcd a b ∧ B ≤ A ∧ A ≤ a ∧ B < b) ∧ Below w.heap.size w w' := by
 have RA := Lib.hid ha
 have RB := Lib.hid hb
 have halt : a < pw (k + 3) := by rw [← hk]; exact lt_pw_nlen a
 have hblt : b < pw (k + 3) := Nat.lt_of_le_of_lt hab halt
 have hb0 : 0 < b := (nlen_pos_iff b).1 (by omega)
 have hdb : dig b (k + 2) ≤ dig a (k + 2) := by rw [top_dig halt, top_dig hblt]; exact Nat.div_le_div_right hab
 have hda := dig_lt a (k + 2)
 have LA := Lib.hid (fun (u c : Nat) (hu : u * c = 1000000000) (hd : dig a (k + 2) < u) (z : Int) (hz : z = (k : Int) + 2) (W' : World) (hW : Below w.heap.size w W') => hz ▸ impl_leading va a k u c W' (rowOf_below ha hW) hu halt hd (by omega))
 have LB := Lib.hid (fun (u c : Nat) (hu : u * c = 1000000000) (hd : dig a (k + 2) < u) (z : Int) (hz : z = (k : Int) + 2) (W' : World) (hW : Below w.heap.size w W') => hz ▸ impl_leading vb b k u c W' (rowOf_below hb hW) hu hblt (by omega) (by omega))
 have TD := Lib.hid (fun (W' : World) (hW : Below w.heap.size w W') => impl_divide va vb a b W' (rowOf_below ha hW) (rowOf_below hb hW) hb0 (by omega) (by have := nlen_mono hab; omega))
 have CB := Lib.hid (fun (T : Nat) (m n : Int) (W' : World) (hW : Below w.heap.size w W') (hm) (hn) (hT : (T : Int) = m * (a : Int) + n * (b : Int)) (hTa : T ≤ a) => impl_combine va vb a b T m n W' (rowOf_below ha hW) (rowOf_below hb hW) hm hn hT (by have := nlen_mono hTa; omega) (by omega) (by have := nlen_mono hab; omega))
 have HLE := Lib.hid (fun (u c : Nat) (hu : u * c = 1000000000) (hd : dig a (k + 2) < u) => lead_eq hu halt hd)
 obtain ⟨aa, ca, rfl, e1, e2, e3⟩ := ha
 obtain ⟨ab, cb, rfl, e4, e5, e6⟩ := hb
 clear e1 e2 e3 e4 e5 e6
 rw [limI_length] at RA LA TD CB ⊢
 rw [limI_length] at RB LB TD CB ⊢
 rw [hk] at RA LA TD CB ⊢
 obtain ⟨b1, o1, rfl, ct⟩ := row_limb RA.out (k := k + 2) (by omega)
 have HD := Lib.hid (rfl : dig a (k + 2) = dig a (k + 2))
 obtain ⟨d, hd⟩ : ∃ d, dig a (k + 2) = d := ⟨_, rfl⟩
 rw [hd] at ct hda LA LB HLE
 have e1 : ((k : Int) + 3 - 1).toNat = k + 2 := by omega
 clear hd hdb HD
 go_enter Tryz.func169, Tryz.ntmps169
 go_wp2
 go_loop [7] (fun v => ∃ j u : Nat, j ≤ 9 ∧ v = .int .i64 u ∧ Hid (u = 10 ^ j) ∧ 1 ≤ u ∧ u ≤ 1000000000) (fun v => (1000000000 - intOf v).toNat)
 case atStart => exact ⟨0, 1, by omega, rfl, rfl, by omega, by omega⟩
 case round =>
  obtain ⟨j, u, hj, rfl, HU, hu1, hu9⟩ := hrel
  by_cases hud : u ≤ d
  ·have hj9 : j < 9 := by
    rcases Nat.lt_or_ge j 9 with h | h
    ·exact h
    ·have h9 : j = 9 := by omega
     have := HU.out; rw [h9] at this; simp at this; omega
   have HU2 : Hid (u * 10 = 10 ^ (j + 1)) := by unfold Hid; rw [HU.out, Nat.pow_succ]
   have hle : u * 10 ≤ 1000000000 := by rw [HU2.out]; exact ten_le (by omega)
   go_wp2
   go_round
   case rel => exact ⟨j + 1, u * 10, by omega, by go_num, HU2, by omega, hle⟩
   case measure => simp [intOf]; omega
  ·have hc : u * 10 ^ (9 - j) = 1000000000 := by rw [HU.out]; exact ten_pow hj
   have hdu : d < u := by omega
   obtain ⟨S, hS⟩ : ∃ S, pw k * u = S := ⟨_, rfl⟩
   have hS0 : 0 < S := by rw [← hS]; exact Nat.mul_pos (pw_pos k) hu1
   have hle := HLE.out u _ hc hdu
   rw [hle.1, hS] at hle
   have LA1 := Lib.hid (LA.out u _ hc hdu)
   have LB1 := Lib.hid (LB.out u _ hc hdu)
   rw [hS] at LA1 LB1
   have hxy : b / S ≤ a / S := Nat.div_le_div_right hab
   have hx18 := hle.2.1
   have TS := Lib.hid (fun W' => impl_steps a b S (a / S) (b / S) (a % S) (b % S) W' hS0 (Nat.div_add_mod' a S).symm (Nat.mod_lt _ hS0) (Nat.div_add_mod' b S).symm (Nat.mod_lt _ hS0) hab hxy hx18)
   have HABL := Lib.hid hab
   clear hle hS hc LA LB HLE
   obtain ⟨x0, hx0⟩ : ∃ x0, a / S = x0 := ⟨_, rfl⟩
   obtain ⟨y0, hy0⟩ : ∃ y0, b / S = y0 := ⟨_, rfl⟩
   rw [hx0] at LA1 TS
   rw [hy0] at LB1 TS
   clear hx0 hy0 hxy hx18
   go_upto_region 5 with fail
   clear e1 ct
   go_cut [8, 9] from 15 (fun q8 q9 wc => ∃ (p : Nat) (f0 f1 s0 s1 : Int), q8 = .pointer (some ⟨p, 0, none⟩) ∧ q9 = .pointer (some ⟨p + 1, 0, none⟩) ∧ Hid (∃ (x y : Int) (A B : Nat), Leh a b S x0 y0 x y f0 f1 s0 s1 A B) ∧ Hid (Box2 wc p f0 f1) ∧ Hid (Box2 wc (p + 1) s0 s1) ∧ Hid (Below w.heap.size w wc))
   case first =>
    go_wp2_with (first
     | (go_at_call 185; refine (TS.out _).mono ?_; rintro e w3 ⟨f0, f1, s0, s1, rfl, hL, b3⟩)
     | (have := q1; go_at_call 186; refine (LB1.out _ (by omega) _ (below_drewN (Below.refl _ _) _)).mono ?_; rintro e w' ⟨rfl, q2, rfl⟩)
     | (go_at_call 186; refine (LA1.out _ (by omega) _ (Below.refl _ _)).mono ?_; rintro e w' ⟨rfl, q1, rfl⟩))
    go_meet
    have b3' : Below w.heap.size w w3 := (below_drewN (Below.refl _ w) (q1 + q2)).trans b3
    case rel => exact ⟨w3.heap.size, f0, f1, s0, s1, rfl, rfl, hL, (Box2.new w3 f0 f1).alloc _, (by have := Box2.new (w3.alloc (.cells #[.int .i64 f0, .int .i64 f1] 171)) s0 s1; simp only [World.size_alloc] at this; exact this), ((b3'.alloc b3'.size _).alloc (Nat.le_trans b3'.size (by simp)) _)⟩
   obtain ⟨p, f0, f1, s0, s1, rfl, rfl, hL, K2, K3, HB⟩ := hcut
   clear LA1 LB1 TS
   obtain ⟨x, y, A, B, HL⟩ := hL.out
   clear hL
   have c30 := K3.out.cell0
   by_cases hs0 : s0 = 0
   ·have e0 : (s0 == 0) = true := by simp [hs0]
    go_wp2_with (go_at_call 171; refine (TD.out _ HB.out).mono ?_; rintro e w4 ⟨v0, v1, rfl, o0, o1, ap, b4⟩)
    go_ret2
    exact ⟨_, _, ⟨b, a % b, rfl, rowOf_below (rowOf_below RB.out HB.out) b4, o1.row, gcd_step' a b, Nat.le_of_lt (Nat.mod_lt _ hb0), HABL.out, Nat.mod_lt _ hb0⟩, HB.out.trans (b4.mono HB.out.size)⟩
   ·have e0 : (s0 == 0) = false := by simp [hs0]
    have FIN : Hid (∀ T T' : Nat, (T : Int) = f0 * (a : Int) + f1 * (b : Int) → (T' : Int) = s0 * (a : Int) + s1 * (b : Int) → Nat.gcd T T' = Nat.gcd a b ∧ T' ≤ T ∧ T ≤ a ∧ T' < b) := fun T T' h1 h2 => by
     have hA : T = A := by have := HL.hA; omega
     have hB : T' = B := by have := HL.hB; omega
     subst hA hB
     refine ⟨HL.gcd, HL.BA, HL.Aa, ?_⟩
     rcases HL.less with h | h
     ·exact (hs0 h).elim
     ·exact h
    have hAa := HL.Aa
    have hBa : B ≤ a := Nat.le_trans HL.BA HL.Aa
    have C : Hid (∀ (m n : Int) (W' : World), Below wc.heap.size wc W' → ((m = f0 ∧ n = f1) ∨ (m = s0 ∧ n = s1)) → Calls Tryz.prog 187 #[.slice (some ⟨b1, o1, none⟩) (k + 3) ca, .int .i64 m, .slice ab (nlen b) cb, .int .i64 n] W' fun e w' => ∃ v, e = .returned v ∧ ∃ T : Nat, RowOf iV w' v (limI T) ∧ (T : Int) = m * (a : Int) + n * (b : Int) ∧ (∀ u l, RowOf iV W' u l → RowOf iV w' u l) ∧ Below wc.heap.size wc w') := fun m n W' hW hmn => by
     have hW2 := HB.out.trans (hW.mono HB.out.size)
     rcases hmn with ⟨rfl, rfl⟩ | ⟨rfl, rfl⟩
     ·refine (CB.out A m n W' hW2 (by have := HL.f0b; omega) (by have := HL.f1b; omega) HL.hA hAa).mono ?_
      rintro e w' ⟨v, rfl, o, b⟩
      exact ⟨v, rfl, A, o.row, HL.hA, fun u l h => rowOf_below h b, hW.trans (b.mono hW.size)⟩
     ·refine (CB.out B m n W' hW2 (by have := HL.s0b; omega) (by have := HL.s1b; omega) HL.hB hBa).mono ?_
      rintro e w' ⟨v, rfl, o, b⟩
      exact ⟨v, rfl, B, o.row, HL.hB, fun u l h => rowOf_below h b, hW.trans (b.mono hW.size)⟩
    have c20 := K2.out.cell0
    have c21 := K2.out.cell1
    have c31 := K3.out.cell1
    have HP2 := Lib.hid K2.out.lt
    have HP3 := Lib.hid K3.out.lt
    clear HL hAa hBa hs0 CB TD
    go_upto_region 9 with fail
    go_region_held3 (fun w' => w'.cell? ⟨p, 0, none⟩ = some (.int .i64 f0) ∧ w'.cell? ⟨p, 1, none⟩ = some (.int .i64 f1) ∧ w'.cell? ⟨p + 1, 0, none⟩ = some (.int .i64 s0) ∧ w'.cell? ⟨p + 1, 1, none⟩ = some (.int .i64 s1)) (first | exact ⟨g20, g21, g30, g31⟩ | exact ⟨d20, d21, d30, d31⟩ | exact ⟨c20, c21, c30, c31⟩)
     (first
     | (have := hr7; go_at_call 187; refine (C.out _ _ _ (by first | exact hbb | exact hbb.drew) (by first | exact .inl ⟨rfl, rfl⟩ | exact .inr ⟨rfl, rfl⟩)).mono ?_; rintro e w8 ⟨v8, rfl, T8, hr8, ht8, hk8, hb8⟩; have g20 := (hb8.cell (p := ⟨p, 0, none⟩) HP2.out).trans c20; have g21 := (hb8.cell (p := ⟨p, 1, none⟩) HP2.out).trans c21; have g30 := (hb8.cell (p := ⟨p + 1, 0, none⟩) HP3.out).trans c30; have g31 := (hb8.cell (p := ⟨p + 1, 1, none⟩) HP3.out).trans c31)
     | (go_at_call 187; refine (C.out _ _ _ (by first | exact Below.refl _ _ | exact (Below.refl _ _).drew) (by first | exact .inl ⟨rfl, rfl⟩ | exact .inr ⟨rfl, rfl⟩)).mono ?_; rintro e w7 ⟨v7, rfl, T7, hr7, ht7, hk7, hbb⟩; have d20 := (hbb.cell (p := ⟨p, 0, none⟩) HP2.out).trans c20; have d21 := (hbb.cell (p := ⟨p, 1, none⟩) HP2.out).trans c21; have d30 := (hbb.cell (p := ⟨p + 1, 0, none⟩) HP3.out).trans c30; have d31 := (hbb.cell (p := ⟨p + 1, 1, none⟩) HP3.out).trans c31))
    all_goals go_wp2
    all_goals go_ret2
    all_goals first
     | exact ⟨_, _, ⟨T7, T8, rfl, hk8 _ _ hr7, hr8, FIN.out _ _ ht7 ht8⟩, HB.out.trans (hb8.mono HB.out.size)⟩
     | exact ⟨_, _, ⟨T8, T7, rfl, hr8, hk8 _ _ hr7, FIN.out _ _ ht8 ht7⟩, HB.out.trans (hb8.mono HB.out.size)⟩
end Go.Proofs.YtlepgkkpopjgoaaGreat
namespace Go.Proofs.YtlepgkkpopjgoaaGreat
set_option maxRecDepth 100000
set_option linter.unusedVariables false
set_option linter.unusedSimpArgs false
open Go.RowKit
attribute [local go_sem] Oper.semAt_some
set_option maxHeartbeats 2000000 in
theorem impl_gcd (va vb : Value) (x y : Nat) (w : World) (ha : RowOf iV w va (limI x)) (hb : RowOf iV w vb (limI y)) (hx : nlen x ≤ 60) (hy : nlen y ≤ 60) :
  Calls Tryz.prog 146 #[va, vb] w fun e w' => ∃ v, e = .returned v ∧ OwnI w' w.heap.size v (limI (Nat.gcd x y)) ∧ Below w.heap.size w w' := by
 have RA := Lib.hid ha
 have RB := Lib.hid hb
 have T0 := Lib.hid (impl_compare va vb x y w ha hb (by omega) (by omega))
 obtain ⟨aa, ca, rfl, e1, e2, e3⟩ := ha
 obtain ⟨ab, cb, rfl, e4, e5, e6⟩ := hb
 clear e1 e2 e3 e4 e5 e6
 rw [limI_length] at RA T0 ⊢
 rw [limI_length] at RB T0 ⊢
 have HCN := Lib.hid (cmpN_neg x y)
 obtain ⟨cm, hcm⟩ : ∃ cm, cmpN x y = cm := ⟨_, rfl⟩
 rw [hcm] at T0 HCN
 clear hcm
 go_enter Tryz.func146, Tryz.ntmps146
 go_upto_region 1 with fail
 go_cut [14] from 11 (fun q wc => q = .bool (decide (cm < 0)) ∧ Hid (Below w.heap.size w wc))
 case first =>
  go_wp2_with (go_at_call 111; refine T0.out.mono ?_; rintro e w1 ⟨rfl, b1⟩)
  go_meet
  exact ⟨rfl, b1⟩
 obtain ⟨rfl, HB1⟩ := hcut
 clear T0
 go_upto_if 14 with fail
 go_cut [0, 1] from 14 (fun p q wd => ∃ a b : Nat, b ≤ a ∧ nlen a ≤ 60 ∧ Hid (Nat.gcd a b = Nat.gcd x y) ∧ Hid (RowOf iV wd p (limI a)) ∧ Hid (RowOf iV wd q (limI b)) ∧ Hid (Below w.heap.size w wd))
 case first =>
  by_cases hlt : x < y
  ·have hc : decide (cm < 0) = true := decide_eq_true (HCN.out.2 hlt)
   rw [hc]
   clear hc
   go_wp2
   go_meet
   exact ⟨y, x, by omega, hy, Nat.gcd_comm y x, rowOf_below RB.out HB1.out, rowOf_below RA.out HB1.out, HB1⟩
  ·have hc : decide (cm < 0) = false := decide_eq_false (fun h => hlt (HCN.out.1 h))
   rw [hc]
   clear hc
   go_wp2
   go_meet
   exact ⟨x, y, by omega, hx, rfl, rowOf_below RA.out HB1.out, rowOf_below RB.out HB1.out, HB1⟩
 obtain ⟨a, b, hba, ha60, HG, R0, R1, HB⟩ := hcut
 clear HB1 RA RB HCN
 go_upto_block 0 with fail
 go_cut [0, 1] from 17 (fun p q wd => ∃ a b : Nat, b ≤ a ∧ nlen a ≤ 60 ∧ nlen b ≤ 2 ∧ Hid (Nat.gcd a b = Nat.gcd x y) ∧ Hid (RowOf iV wd p (limI a)) ∧ Hid (RowOf iV wd q (limI b)) ∧ Hid (Below w.heap.size w wd))
 case first =>
  go_wp2
  go_loopg [0, 1] b (fun gk p q wr => ∃ a : Nat, gk ≤ a ∧ nlen a ≤ 60 ∧ Hid (Nat.gcd a gk = Nat.gcd x y) ∧ Hid (RowOf iV wr p (limI a)) ∧ Hid (RowOf iV wr q (limI gk)) ∧ Hid (Below w.heap.size w wr))
  case atStart => exact ⟨a, hba, ha60, HG, R0, R1, HB⟩
  case round =>
   clear hba ha60 HG R0 R1 HB
   obtain ⟨a, hba, ha60, HG, R0, R1, HB⟩ := hrel
   by_cases h2 : 2 < nlen gk
   ·have hm := nlen_mono hba
    have TE := Lib.hid (impl_euclid _ _ a gk (nlen a - 3) wr R0.out R1.out hba (by omega) (by omega) ha60)
    have hsz : w.heap.size ≤ wr.heap.size := HB.out.size
    obtain ⟨p0, c0, rfl, a1, a2, a3⟩ := R0.out
    obtain ⟨p1, c1, rfl, a4, a5, a6⟩ := R1.out
    clear a1 a2 a3 a4 a5 a6
    rw [limI_length] at TE R0 ⊢
    rw [limI_length] at TE R1 ⊢
    go_wp2_with (go_at_call 169; refine TE.out.mono ?_; rintro e w3 ⟨v0, v1, ⟨A, B, rfl, r0, r1, hg, hBA, hAa, hBb⟩, b3⟩)
    go_roundg B
    case measure => exact hBb
    case rel => exact ⟨A, hBA, Nat.le_trans (nlen_mono hAa) ha60, hg.trans HG.out, r0, r1, HB.out.trans (b3.mono hsz)⟩
   ·obtain ⟨p1, c1, rfl, a4, a5, a6⟩ := R1.out
    clear a4 a5 a6
    rw [limI_length] at R1 ⊢
    go_wp2
    go_meet
    exact ⟨a, gk, hba, ha60, by omega, HG, R0, R1, HB⟩
 clear hba ha60 HG R0 R1 HB
 obtain ⟨a, b, hba, ha60, hb2, HG, R0, R1, HB⟩ := hcut
 have hsz : w.heap.size ≤ wc.heap.size := HB.out.size
 have TC := Lib.hid (impl_clone _ a wc R0.out (by omega))
 have TD := Lib.hid (fun (h0 : 0 < b) => impl_divide _ _ a b wc R0.out R1.out h0 (by omega) (by omega))
 obtain ⟨p0, c0, rfl, a1, a2, a3⟩ := R0.out
 obtain ⟨p1, c1, rfl, a4, a5, a6⟩ := R1.out
 clear a1 a2 a3 a4 a5 a6
 rw [limI_length] at TC TD R0 ⊢
 rw [limI_length] at TD R1 ⊢
 by_cases hb0 : b = 0
 ·subst hb0
  have HE : Hid (a = Nat.gcd x y) := by have := HG.out; rw [Nat.gcd_zero_right] at this; exact this
  rw [nlen_zero] at R1 ⊢
  clear TD
  go_wp2_with (go_at_call 170; refine TC.out.mono ?_; rintro e w3 ⟨v3, rfl, o3, b3⟩)
  go_ret
  exact ⟨_, rfl, by rw [← HE.out]; exact o3.base hsz, HB.out.trans (b3.mono hsz)⟩
 ·have hn1 := (nlen_pos_iff b).2 (by omega)
  have hnz : ((nlen b : Int) == 0) = false := by simp; omega
  have TD1 := Lib.hid (TD.out (by omega))
  clear TD TC
  go_upto_if 33 with fail
  go_cut [0, 1] from 28 (fun p q wd => ∃ A B : Nat, nlen A ≤ 2 ∧ nlen B ≤ 2 ∧ Hid (Nat.gcd A B = Nat.gcd x y) ∧ Hid (RowOf iV wd p (limI A)) ∧ Hid (RowOf iV wd q (limI B)) ∧ Hid (Below w.heap.size w wd))
  case first =>
   by_cases hl : 2 < nlen a
   ·go_wp2_with (go_at_call 171; refine TD1.out.mono ?_; rintro e w3 ⟨v0, v1, rfl, o0, o1, ap, b3⟩)
    go_meet
    exact ⟨b, a % b, hb2, Nat.le_trans (nlen_mono (Nat.le_of_lt (Nat.mod_lt _ (by omega)))) hb2, (gcd_step a b).trans HG.out, rowOf_below R1.out b3, o1.row, HB.out.trans (b3.mono hsz)⟩
   ·go_wp2
    go_meet
    exact ⟨a, b, by omega, hb2, HG, R0, R1, HB⟩
  clear hba ha60 hb2 HG R0 R1 HB hb0 hn1 hnz TD1 hsz
  obtain ⟨A, B, hA, hB, HG, R0, R1, HB⟩ := hcut
  have hsz : w.heap.size ≤ wc.heap.size := HB.out.size
  have mA : A ≤ 999999999999999999 := by have := (nlen_le_iff 2 A).1 hA; rw [pw_succ, pw_one] at this; omega
  have mB : B ≤ 999999999999999999 := by have := (nlen_le_iff 2 B).1 hB; rw [pw_succ, pw_one] at this; omega
  have T1 := impl_toInt _ A wc R0.out (by omega)
  rw [intR_yes (by omega)] at T1
  have T1 := Lib.hid T1
  have T2 := Lib.hid (fun (W' : World) (hW : Below wc.heap.size wc W') => intR_yes (show B ≤ 9223372036854775807 by omega) ▸ impl_toInt _ B W' (rowOf_below R1.out hW) (by omega))
  obtain ⟨p0, c0, rfl, a1, a2, a3⟩ := R0.out
  obtain ⟨p1, c1, rfl, a4, a5, a6⟩ := R1.out
  clear a1 a2 a3 a4 a5 a6
  rw [limI_length] at T1 R0 ⊢
  rw [limI_length] at T2 R1 ⊢
  go_upto_region 11 with (go_at_call 172; refine T1.out.mono ?_; rintro e w3 ⟨rfl, b3⟩)
  go_wp2_with (go_at_call 172; refine (T2.out _ b3).mono ?_; rintro e w4 ⟨rfl, b4⟩)
  have HB4 := Lib.hid ((HB.out.trans (b3.mono hsz)).trans (b4.mono (Nat.le_trans hsz b3.size)))
  clear T1 T2 b3 b4 R0 R1 HB hsz
  go_loopw [7, 9] (fun xv yv wr => ∃ p q : Nat, xv = .int .i64 p ∧ yv = .int .i64 q ∧ p ≤ 999999999999999999 ∧ q ≤ 999999999999999999 ∧ Hid (Nat.gcd p q = Nat.gcd x y) ∧ Hid (Below w.heap.size w wr)) (fun _ yv _ => (intOf yv).toNat)
  case atStart => exact ⟨A, B, rfl, rfl, mA, mB, HG, HB4⟩
  case round =>
   obtain ⟨p, q, rfl, rfl, hp, hq, HGq, HBq⟩ := hrel
   by_cases h0 : 0 < q
   ·have hm : ((p : Int) % (q : Int)) = ((p % q : Nat) : Int) := by simp
    have hmt : ((p : Int).tmod (q : Int)) = ((p % q : Nat) : Int) := by rw [Int.tmod_eq_emod_of_nonneg (by omega)]; simp
    have hbz : ((q : Int) == 0) = false := by simp; omega
    have hlt := Nat.mod_lt p h0
    have HS := Lib.hid ((gcd_step p q).trans HGq.out)
    obtain ⟨r, hr⟩ : ∃ r, p % q = r := ⟨_, rfl⟩
    rw [hr] at hm hmt hlt HS
    clear hr
    go_wp2
    go_quiet (fail)
    go_wp2
    go_roundw
    case rel => exact ⟨q, r, by go_num, by go_num, hq, by omega, HS, below_drewN HBq.out _⟩
    case measure => simp [intOf]; omega
   ·obtain rfl : q = 0 := by omega
    have HE : Hid (p = Nat.gcd x y) := by have := HGq.out; rw [Nat.gcd_zero_right] at this; exact this
    have hsz : w.heap.size ≤ wr.heap.size := HBq.out.size
    go_wp2_with (go_at_call 142; refine (impl_limbsOf_nat p _ (by omega)).mono ?_; rintro e w5 ⟨v5, rfl, o5, b5⟩)
    go_ret
    exact ⟨_, rfl, by rw [← HE.out]; exact o5.base hsz, HBq.out.trans (b5.mono hsz)⟩
end Go.Proofs.YtlepgkkpopjgoaaGreat
namespace Go.Proofs.YtlepgkkpopjgoaaGreat
set_option maxRecDepth 100000
set_option linter.unusedVariables false
set_option linter.unusedSimpArgs false
open Go.RowKit
theorem gcd_len (x y : Nat) : nlen (Nat.gcd x y) ≤ max (nlen x) (nlen y) := by
 rcases Nat.eq_zero_or_pos x with h | h
 ·subst h; rw [Nat.gcd_zero_left]; omega
 ·have := nlen_mono (Nat.gcd_le_left y h); omega
end Go.Proofs.YtlepgkkpopjgoaaGreat
