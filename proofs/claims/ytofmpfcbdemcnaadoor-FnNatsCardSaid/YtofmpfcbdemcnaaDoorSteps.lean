/- leadingSteps of the program: Lehmer's steps on the leading digits. -/
import Derived.Test.YtofmpfcbdemcnaaDoorFill
import Derived.Test.YtofmpfcbdemcnaaDoorNum3
import Derived.Deep.LoopGhost
import Derived.Deep.CutBlock
import Derived.Deep.CutRange
import Derived.RegionTactic
import Derived.BigRegion
import Derived.RangeFuncBox
namespace Go.Proofs.YtofmpfcbdemcnaaDoor
open Go.RowKit

attribute [local go_sem] Oper.semAt_some

/-- a block of two numbers: an array variable -/
def Box2 (W : World) (B : Nat) (a b : Int) : Prop := W.heap[B]? = some (.cells #[.int .i64 a, .int .i64 b] 91 (0, 0))
theorem Box2.cell0 {W : World} {B : Nat} {a b : Int} (h : Box2 W B a b) : W.cell? ⟨B, 0, none⟩ = some (.int .i64 a) := by simp [World.cell?, show W.heap[B]? = _ from h]
theorem Box2.cell1 {W : World} {B : Nat} {a b : Int} (h : Box2 W B a b) : W.cell? ⟨B, 1, none⟩ = some (.int .i64 b) := by simp [World.cell?, show W.heap[B]? = _ from h]
theorem Box2.frozen {W : World} {B : Nat} {a b : Int} (h : Box2 W B a b) (k : Nat) : W.frozen? ⟨B, k, none⟩ = false := by simp [World.frozen?, show W.heap[B]? = _ from h]
theorem Box2.lt {W : World} {B : Nat} {a b : Int} (h : Box2 W B a b) : B < W.heap.size := (Array.getElem?_eq_some_iff.1 h).1
theorem Box2.new (W : World) (a b : Int) : Box2 (W.alloc (.cells #[.int .i64 a, .int .i64 b] 91)) W.heap.size a b := World.alloc_heap_new W _
theorem Box2.kept {W W' : World} {B : Nat} {a b : Int} {row : Option Nat} (h : Box2 W B a b) (hg : W.grownBy W' row) (hne : some B ≠ row) : Box2 W' B a b := (hg.block B h.lt hne).trans h
theorem Box2.alloc {W : World} {B : Nat} {a b : Int} (h : Box2 W B a b) (o : Obj) : Box2 (W.alloc o) B a b := h.kept (World.grownBy_alloc W o none) (by simp)

theorem Box2.set0 {W : World} {B : Nat} {a b : Int} (h : Box2 W B a b) (a' : Int) : Box2 (W.setCell ⟨B, 0, none⟩ (.int .i64 a')) B a' b := by
  obtain ⟨hlt, hk⟩ := Array.getElem?_eq_some_iff.1 h
  show (W.heap.modify B _)[B]? = _
  rw [Array.getElem?_eq_getElem (by rw [Array.size_modify]; exact hlt), Array.getElem_modify_self, hk]
  rfl
theorem Box2.set1 {W : World} {B : Nat} {a b : Int} (h : Box2 W B a b) (b' : Int) : Box2 (W.setCell ⟨B, 1, none⟩ (.int .i64 b')) B a b' := by
  obtain ⟨hlt, hk⟩ := Array.getElem?_eq_some_iff.1 h
  show (W.heap.modify B _)[B]? = _
  rw [Array.getElem?_eq_getElem (by rw [Array.size_modify]; exact hlt), Array.getElem_modify_self, hk]
  rfl
theorem Box2.set {W : World} {B : Nat} {a b : Int} (h : Box2 W B a b) (a' b' : Int) : Box2 ((W.setCell ⟨B, 0, none⟩ (.int .i64 a')).setCell ⟨B, 1, none⟩ (.int .i64 b')) B a' b' := (h.set0 a').set1 b'
theorem Box2.other {W : World} {B C : Nat} {a b : Int} (h : Box2 W B a b) (hne : B ≠ C) (a' b' : Int) : Box2 ((W.setCell ⟨C, 0, none⟩ (.int .i64 a')).setCell ⟨C, 1, none⟩ (.int .i64 b')) B a b :=
  (h.kept (setCell_grown W C 0 (.int .i64 a')) (fun e => hne (by injection e))).kept (setCell_grown (W.setCell ⟨C, 0, none⟩ (.int .i64 a')) C 1 (.int .i64 b')) (fun e => hne (by injection e))
theorem Box2.load {W : World} {B : Nat} {a b : Int} (h : Box2 W B a b) : (loadVar 91 ⟨B, 0, none⟩).run Tryd.prog W = .ok (.agg #[.int .i64 a, .int .i64 b]) W :=
  run_loadVar_row W B 91 91 #[.int .i64 a, .int .i64 b] (0, 0) _ h Tryd.underlying91 rfl (by kernel_rfl)
theorem results_cells {fn : Func} {p u : Tmp} (h : fn.results = #[.cell p 91, .cell u 91]) (tmps : Array Value) (w : World) (g g' : Nat) (a b a' b' : Int)
    (hp : tmps.getD p undef = .pointer (some ⟨g, 0, none⟩)) (hp2 : tmps.getD u undef = .pointer (some ⟨g', 0, none⟩)) (hg : Box2 w g a b) (hg2 : Box2 w g' a' b') :
    (results fn tmps).run Tryd.prog w = .ok (.tuple #[.agg #[.int .i64 a, .int .i64 b], .agg #[.int .i64 a', .int .i64 b']]) w := by
  have hp' : tmps[p]?.getD undef = .pointer (some ⟨g, 0, none⟩) := by simpa using hp
  have hp2' : tmps[u]?.getD undef = .pointer (some ⟨g', 0, none⟩) := by simpa using hp2
  simp [results, h, hp', hp2', asAddr, Sem.run_bind, Result.andThen, hg.load, hg2.load]

set_option maxHeartbeats 2000000 in
theorem impl_steps (a b S x0 y0 al be : Nat) (w : World) (hS : 0 < S) (ha : a = x0 * S + al) (hal : al < S) (hb : b = y0 * S + be) (hbe : be < S) (hab : b ≤ a) (hxy : y0 ≤ x0) (hx : x0 < 1000000000000000000) :
    Calls Tryd.prog 76 #[.int .i64 x0, .int .i64 y0] w fun e w' => ∃ f0 f1 s0 s1 : Int, e = .returned (.tuple #[.agg #[.int .i64 f0, .int .i64 f1], .agg #[.int .i64 s0, .int .i64 s1]]) ∧ (∃ (x y : Int) (A B : Nat), Leh a b S x0 y0 x y f0 f1 s0 s1 A B) ∧ Below w.heap.size w w' := by
  have HST := Lib.hid (fun (x y f0 f1 s0 s1 : Int) (A B : Nat) (h : Leh a b S x0 y0 x y f0 f1 s0 s1 A B) (g0 : 0 < y + s0) (g1 : 0 < y + s1) (q : Int) (q0 : q = (x + f0) / (y + s0)) (q1 : q = (x + f1) / (y + s1)) => h.step hS ha hal hb hbe hx (by omega) g0 g1 q0 q1)
  have HS0 := Lib.hid (Leh.start (a := a) (b := b) (S := S) hab hxy hx)
  clear hS ha hal hb hbe hab
  have B0 := Lib.hid ((((Box2.new w 0 0).alloc (.cells #[.int .i64 0, .int .i64 0] 91)).alloc (.cells #[.int .i64 1, .int .i64 0] 91)).alloc (.cells #[.int .i64 0, .int .i64 1] 91))
  have B1 := Lib.hid (((Box2.new (w.alloc (.cells #[.int .i64 0, .int .i64 0] 91)) 0 0).alloc (.cells #[.int .i64 1, .int .i64 0] 91)).alloc (.cells #[.int .i64 0, .int .i64 1] 91))
  have B2 := Lib.hid ((Box2.new ((w.alloc (.cells #[.int .i64 0, .int .i64 0] 91)).alloc (.cells #[.int .i64 0, .int .i64 0] 91)) 1 0).alloc (.cells #[.int .i64 0, .int .i64 1] 91))
  have B3 := Lib.hid (Box2.new (((w.alloc (.cells #[.int .i64 0, .int .i64 0] 91)).alloc (.cells #[.int .i64 0, .int .i64 0] 91)).alloc (.cells #[.int .i64 1, .int .i64 0] 91)) 0 1)
  have BL := Lib.hid (((((Below.refl w.heap.size w).alloc (Nat.le_refl _) (.cells #[.int .i64 0, .int .i64 0] 91)).alloc (by simp) (.cells #[.int .i64 0, .int .i64 0] 91)).alloc (by simp; omega) (.cells #[.int .i64 1, .int .i64 0] 91)).alloc (by simp; omega) (.cells #[.int .i64 0, .int .i64 1] 91))
  simp only [World.size_alloc] at B0 B1 B2 B3
  obtain ⟨h, hh⟩ : ∃ h, w.heap.size = h := ⟨_, rfl⟩
  rw [hh] at B0 B1 B2 B3 BL ⊢
  go_enter Tryd.func76, Tryd.ntmps76
  go_upto_block 0 with fail
  generalize (((w.alloc (.cells #[.int .i64 0, .int .i64 0] 91)).alloc (.cells #[.int .i64 0, .int .i64 0] 91)).alloc (.cells #[.int .i64 1, .int .i64 0] 91)).alloc (.cells #[.int .i64 0, .int .i64 1] 91) = W1 at B0 B1 B2 B3 BL ⊢
  go_cut [0, 1, 8] from 9 (fun _ _ _ wc => ∃ f0 f1 s0 s1 : Int, Hid (Box2 wc h 0 0) ∧ Hid (Box2 wc (h + 1) 0 0) ∧ Hid (Box2 wc (h + 1 + 1) f0 f1) ∧ Hid (Box2 wc (h + 1 + 1 + 1) s0 s1) ∧ Hid (Below h w wc) ∧ ∃ (x y : Int) (A B : Nat), Hid (Leh a b S x0 y0 x y f0 f1 s0 s1 A B))
  case first =>
    go_wp2
    go_loopw [0, 1, 8] (fun xv yv qv wr => ∃ (x y f0 f1 s0 s1 : Int) (A B : Nat), xv = .int .i64 x ∧ yv = .int .i64 y ∧ Hid (Leh a b S x0 y0 x y f0 f1 s0 s1 A B) ∧ Hid (Box2 wr h 0 0) ∧ Hid (Box2 wr (h + 1) 0 0) ∧ Hid (Box2 wr (h + 1 + 1) f0 f1) ∧ Hid (Box2 wr (h + 1 + 1 + 1) s0 s1) ∧ Hid (Below h w wr)) (fun _ yv _ _ => (intOf yv).toNat)
    case atStart => exact ⟨x0, y0, 1, 0, 0, 1, a, b, rfl, rfl, HS0, B0, B1, B2, B3, BL⟩
    case round =>
      obtain ⟨x, y, f0, f1, s0, s1, A, B, rfl, rfl, HL, K0, K1, K2, K3, KB⟩ := hrel
      have l1 := HL.out.x1
      have l2 := HL.out.x2
      have l3 := HL.out.y1
      have l4 := HL.out.y2
      have l5 := HL.out.xf0
      have l6 := HL.out.xf1
      have l7 := HL.out.f0b.1
      have l8 := HL.out.f0b.2
      have l9 := HL.out.f1b.1
      have l10 := HL.out.f1b.2
      have l11 := HL.out.s0b.1
      have l12 := HL.out.s0b.2
      have l13 := HL.out.s1b.1
      have l14 := HL.out.s1b.2
      have c20 := K2.out.cell0
      have c21 := K2.out.cell1
      have c30 := K3.out.cell0
      have c31 := K3.out.cell1
      have z2 := fun k => K2.out.frozen k
      have z3 := fun k => K3.out.frozen k
      by_cases t0 : 0 < y + s0
      · by_cases t1 : 0 < y + s1
        · have HQ0 := Int.ediv_nonneg l5 (Int.le_of_lt t0)
          have HQ1 := Int.ediv_le_self (y + s0) l5
          have HR0 := Int.ediv_nonneg l6 (Int.le_of_lt t1)
          have HR1 := Int.ediv_le_self (y + s1) l6
          have hqt : (x + f0).tdiv (y + s0) = (x + f0) / (y + s0) := Int.tdiv_eq_ediv_of_nonneg l5
          have hrt : (x + f1).tdiv (y + s1) = (x + f1) / (y + s1) := Int.tdiv_eq_ediv_of_nonneg l6
          have z0 : (y + s0 == 0) = false := by simp; omega
          have z1 : (y + s1 == 0) = false := by simp; omega
          have HS1 := Lib.hid (fun q q0 q1 => HST.out x y f0 f1 s0 s1 A B HL.out t0 t1 q q0 q1)
          obtain ⟨q, hq⟩ : ∃ q, (x + f0) / (y + s0) = q := ⟨_, rfl⟩
          obtain ⟨r, hr⟩ : ∃ r, (x + f1) / (y + s1) = r := ⟨_, rfl⟩
          rw [hq] at HQ0 HQ1 hqt
          rw [hr] at HR0 HR1 hrt
          have HS2 := Lib.hid (HS1.out q hq.symm)
          rw [hr] at HS2
          by_cases e : q = r
          · subst e
            have HS3 := HS2.out rfl
            obtain ⟨p, hp⟩ : ∃ p, q * y = p := ⟨_, rfl⟩
            obtain ⟨m0, hm0⟩ : ∃ m, q * s0 = m := ⟨_, rfl⟩
            obtain ⟨m1, hm1⟩ : ∃ m, q * s1 = m := ⟨_, rfl⟩
            rw [hp, hm0, hm1] at HS3
            have p1 := HS3.2.1
            have p2 := HS3.2.2.2.1
            have p3 := HS3.2.2.2.2.1
            have p4 := HS3.2.2.2.2.2.1.1
            have p5 := HS3.2.2.2.2.2.1.2
            have p6 := HS3.2.2.2.2.2.2.1
            have p7 := HS3.2.2.2.2.2.2.2
            have HN := Lib.hid HS3.1
            clear HS3 HS2 HS1
            go_upto_region 6 with fail
            clear hq hr hqt hrt z0 z1
            have z20 := z2 0
            have z21 := z2 1
            have z30 := z3 0
            have z31 := z3 1
            clear z2 z3
            have W1f : Hid (∀ V : World, V = ((((wr.setCell ⟨h + 1 + 1, 0, none⟩ (.int .i64 s0)).setCell ⟨h + 1 + 1, 1, none⟩ (.int .i64 s1)).setCell ⟨h + 1 + 1 + 1, 0, none⟩ (.int .i64 (f0 - m0))).setCell ⟨h + 1 + 1 + 1, 1, none⟩ (.int .i64 (f1 - m1))).drew → Hid (Box2 V h 0 0) ∧ Hid (Box2 V (h + 1) 0 0) ∧ Hid (Box2 V (h + 1 + 1) s0 s1) ∧ Hid (Box2 V (h + 1 + 1 + 1) (f0 - m0) (f1 - m1)) ∧ Hid (Below h w V)) := by
              rintro V rfl
              exact ⟨(K0.out.other (by omega) _ _).other (by omega) _ _, (K1.out.other (by omega) _ _).other (by omega) _ _, (K2.out.set s0 s1).other (by omega) _ _, (K3.out.other (by omega) _ _).set _ _,
                ((((KB.out.setCell (p := ⟨h + 1 + 1, 0, none⟩) (by simp; omega) _).setCell (p := ⟨h + 1 + 1, 1, none⟩) (by simp; omega) _).setCell (p := ⟨h + 1 + 1 + 1, 0, none⟩) (by simp; omega) _).setCell (p := ⟨h + 1 + 1 + 1, 1, none⟩) (by simp; omega) _).drew⟩
            go_region
            all_goals go_wp2
            all_goals go_roundw
            case rel => exact ⟨y, x - p, s0, s1, f0 - m0, f1 - m1, B, A % B, rfl, rfl, HN, W1f.out _ rfl⟩
            case measure => simp [intOf]; omega
          · have eb : (q != r) = true := by simp; exact e
            clear HS2 HS1
            go_wp2
            go_meet
            case rel => exact ⟨f0, f1, s0, s1, K0, K1, K2, K3, KB, x, y, A, B, HL⟩
        · go_wp2
          go_meet
          case rel => exact ⟨f0, f1, s0, s1, K0, K1, K2, K3, KB, x, y, A, B, HL⟩
      · go_wp2
        go_meet
        case rel => exact ⟨f0, f1, s0, s1, K0, K1, K2, K3, KB, x, y, A, B, HL⟩
  obtain ⟨f0, f1, s0, s1, K0, K1, K2, K3, KB, hL⟩ := hcut
  have HL := Lib.hid hL
  clear hL B0 B1 B2 B3 BL HS0 HST
  have c00 := K0.out.cell0
  have c01 := K0.out.cell1
  have c10 := K1.out.cell0
  have c11 := K1.out.cell1
  have c20 := K2.out.cell0
  have c21 := K2.out.cell1
  have c30 := K3.out.cell0
  have c31 := K3.out.cell1
  have z00 := K0.out.frozen 0
  have z01 := K0.out.frozen 1
  have z10 := K1.out.frozen 0
  have z11 := K1.out.frozen 1
  go_upto_region 7 with fail
  go_region
  all_goals go_wp2
  obtain ⟨x, y, A, B, hL⟩ := HL.out
  refine bodyPost_ret (v := .tuple #[.agg #[.int .i64 f0, .int .i64 f1], .agg #[.int .i64 s0, .int .i64 s1]]) (results_cells rfl _ _ h (h + 1) f0 f1 s0 s1 rfl rfl ?_ ?_) rfl ⟨f0, f1, s0, s1, rfl, ⟨x, y, A, B, hL.out⟩, ?_⟩
  · exact (K0.out.set f0 f1).other (by omega) s0 s1
  · exact (K1.out.other (by omega) f0 f1).set s0 s1
  · exact ((((KB.out.setCell (p := ⟨h, 0, none⟩) (by simp) _).setCell (p := ⟨h, 1, none⟩) (by simp) _).setCell (p := ⟨h + 1, 0, none⟩) (by simp) _).setCell (p := ⟨h + 1, 1, none⟩) (by simp) _).drew

end Go.Proofs.YtofmpfcbdemcnaaDoor
