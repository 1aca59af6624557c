/- The program's elimination in memory; exchange. -/
import Derived.Test.YtlepgkkpopjgoaaGreatZElApp
import Derived.Test.YtlepgkkpopjgoaaGreatZElMul
import Derived.Test.YtlepgkkpopjgoaaGreatZMatIget
import Derived.Stop.RegionWithIn
namespace Go.Proofs.YtlepgkkpopjgoaaGreat
open Go.RowKit Go.WideShapes Go.ChangeShapes
set_option linter.unusedVariables false
set_option linter.unusedSimpArgs false

/-- a block of five cells -/
def B5 (w : World) (p : Nat) (t : TypeId) (x y z u v : Value) : Prop := w.heap[p]? = some (.cells #[x, y, z, u, v] t (0, 0))
section
variable {w w' : World} {p : Nat} {t : TypeId} {x y z u v : Value}
theorem B5.lt (h : B5 w p t x y z u v) : p < w.heap.size := (Array.getElem?_eq_some_iff.1 h).1
theorem B5.new (w : World) (t : TypeId) (x y z u v : Value) : B5 (w.alloc (.cells #[x, y, z, u, v] t)) w.heap.size t x y z u v := World.alloc_heap_new w _
theorem B5.below (h : B5 w p t x y z u v) (hb : Below w.heap.size w w') : B5 w' p t x y z u v := (hb.block p h.lt).trans h
theorem B5.keptK {S : Nat → Prop} (h : B5 w p t x y z u v) (hk : Kept S w w') (hn : ¬ S p) : B5 w' p t x y z u v := (hk.block p h.lt hn).trans h
theorem B5.alloc (h : B5 w p t x y z u v) (o : Obj) : B5 (w.alloc o) p t x y z u v := h.keptK (S := fun _ => False) ((Kept.refl _ w).trans (Kept.of_below ((Below.refl _ _).alloc (Nat.le_refl _) _))) (fun h => h)
theorem B5.drew (h : B5 w p t x y z u v) : B5 w.drew p t x y z u v := h
theorem B5.c0 (h : B5 w p t x y z u v) : w.cell? ⟨p, 0, none⟩ = some x := by simp [World.cell?, show w.heap[p]? = _ from h]
theorem B5.c1 (h : B5 w p t x y z u v) : w.cell? ⟨p, 1, none⟩ = some y := by simp [World.cell?, show w.heap[p]? = _ from h]
theorem B5.c2 (h : B5 w p t x y z u v) : w.cell? ⟨p, 2, none⟩ = some z := by simp [World.cell?, show w.heap[p]? = _ from h]
theorem B5.c3 (h : B5 w p t x y z u v) : w.cell? ⟨p, 3, none⟩ = some u := by simp [World.cell?, show w.heap[p]? = _ from h]
theorem B5.c4 (h : B5 w p t x y z u v) : w.cell? ⟨p, 4, none⟩ = some v := by simp [World.cell?, show w.heap[p]? = _ from h]
theorem B5.f (h : B5 w p t x y z u v) (j : Nat) : w.frozen? ⟨p, j, none⟩ = false := by simp [World.frozen?, show w.heap[p]? = _ from h]
theorem B5.set (h : B5 w p t x y z u v) (j : Nat) (a : Value) : (w.setCell ⟨p, j, none⟩ a).heap[p]? = some (.cells ((#[x, y, z, u, v] : Array Value).setIfInBounds j a) t (0, 0)) := by
  simp [World.setCell, Array.getElem?_modify, show w.heap[p]? = _ from h]
theorem B5.set3 (h : B5 w p t x y z u v) (a : Value) : B5 (w.setCell ⟨p, 3, none⟩ a) p t x y z a v := h.set 3 _
theorem B5.set4 (h : B5 w p t x y z u v) (a : Value) : B5 (w.setCell ⟨p, 4, none⟩ a) p t x y z u a := h.set 4 _
end
/-- an elimination of the program's -/
structure PrS (w : World) (B p : Nat) (a : Option Addr) (N cap R C : Nat) (e : El) (pv fv : Value) (xs ps : List (Value × Value)) : Prop where
  D : B5 w p 79 (.int .i64 (R : Int)) (.int .i64 (C : Int)) (.slice a N cap) pv fv
  S : ElS w B (.slice a N cap) R C e pv fv xs ps
  off : ∀ k, OnE (.slice a N cap) pv fv xs ps k → k ≠ p
  hB : B ≤ p
section
variable {w w' : World} {B p : Nat} {a : Option Addr} {N cap R C : Nat} {e : El} {pv fv : Value} {xs ps : List (Value × Value)}
theorem PrS.below (h : PrS w B p a N cap R C e pv fv xs ps) (hb : Below w.heap.size w w') : PrS w' B p a N cap R C e pv fv xs ps := ⟨h.D.below hb, h.S.below hb, h.off, h.hB⟩
theorem PrS.base {B' : Nat} (h : PrS w B p a N cap R C e pv fv xs ps) (hB : B' ≤ B) : PrS w B' p a N cap R C e pv fv xs ps := ⟨h.D, h.S.base hB, h.off, Nat.le_trans hB h.hB⟩
theorem PrS.drew (h : PrS w B p a N cap R C e pv fv xs ps) : PrS w.drew B p a N cap R C e pv fv xs ps := ⟨h.D, h.S.drew, h.off, h.hB⟩
end
theorem ElS.alloc {w : World} {B : Nat} {v : Value} {R C : Nat} {e : El} {pv fv : Value} {xs ps : List (Value × Value)} (h : ElS w B v R C e pv fv xs ps) (o : Obj) : ElS (w.alloc o) B v R C e pv fv xs ps := h.below ((Below.refl _ _).alloc (Nat.le_refl _) o)
theorem Kept.drew {S : Nat → Prop} {w w' : World} (h : Kept S w w') : Kept S w w'.drew := ⟨h.os, h.tape, h.output, h.size, h.block⟩
theorem PrS.re {w : World} {B p : Nat} {a : Option Addr} {N cap R C : Nat} {g g' : Mx} {P0 : List Nat} {F0 : List Fr} {pv fv : Value} {xs ps : List (Value × Value)} (h : PrS w B p a N cap R C ⟨g, P0, F0⟩ pv fv xs ps) (e : tabM R C g = tabM R C g') : PrS w B p a N cap R C ⟨g', P0, F0⟩ pv fv xs ps :=
  ⟨h.D, h.S.reg e, h.off, h.hB⟩
/-- what a change of the cells alone leaves -/
theorem PrS.cells {w w' : World} {B p : Nat} {a : Option Addr} {N cap R C : Nat} {e : El} {pv fv : Value} {xs ps : List (Value × Value)} {g' : Mx} {xs' : List (Value × Value)} {S : Nat → Prop} (h : PrS w B p a N cap R C e pv fv xs ps) (hv : OwnV w' B (.slice a N cap) (tabM R C g') xs') (hk : Kept S w w') (hS : ∀ k, S k → (Value.slice a N cap).ownBlock = some k ∨ w.heap.size ≤ k) (hx : ∀ k, OnV (.slice a N cap) xs' k → OnV (.slice a N cap) xs k ∨ w.heap.size ≤ k) :
    PrS w' B p a N cap R C ⟨g', e.piv, e.fac⟩ pv fv xs' ps := by
  have hp := h.D.lt
  refine ⟨h.D.keptK hk (fun hs => ?_), h.S.cells hv hk hS hx, fun k hk1 => ?_, h.hB⟩
  · rcases hS p hs with h1 | h1
    · exact h.off p (.inl (.inl h1)) rfl
    · omega
  · rcases hk1 with h1 | h1 | h1
    · rcases hx k h1 with h2 | h2
      · exact h.off k (.inl h2)
      · omega
    · exact h.off k (.inr (.inl h1))
    · exact h.off k (.inr (.inr h1))
/-- the field of the pivots, or of the factors, stored -/
theorem ElS.setP {w : World} {B p j : Nat} {v u : Value} {R C : Nat} {e : El} {pv fv : Value} {xs ps : List (Value × Value)} (h : ElS w B v R C e pv fv xs ps) (hp : ∀ k, OnE v pv fv xs ps k → k ≠ p) : ElS (w.setCell ⟨p, j, none⟩ u) B v R C e pv fv xs ps :=
  h.kept (kept_set w p j u) (fun k hk e => hp k hk e)
set_option maxRecDepth 100000 in
/-- a factor appended, in a region that draws its order -/
theorem step_append_fac {ops : Array Oper} {o : Oper} {a : Act} {K : Act → World → Prop} {Q : Exit → Act → World → Prop} {E : Prop} {w : World} (hgd : o.guard = none) (s x : Operand)
    (ho : o.op = .call { callee := .builtin .append, args := #[s, x], argTypes := #[23, 23] })
    {B : Nat} {v : Value} {R C : Nat} {e : El} {pv fv : Value} {xs ps : List (Value × Value)} (hs : a.eval s = fv) (hE : ElS w B v R C e pv fv xs ps) (hL : e.fac.length ≤ 100000) (hB : B ≤ w.heap.size)
    (g c : Nat) (hx : a.eval x = .slice (some ⟨g, 0, none⟩) 1 c) (f : Fr) (a1 : Option Addr) (n1 r1 : Nat) (a2 : Option Addr) (n2 r2 : Nat) (hblk : w.heap[g]? = some (.cells #[.bool f.neg, .slice a1 n1 r1, .slice a2 n2 r2] 34 (0, 0)))
    (hr : RowR w (.slice a1 n1 r1) f.mag (.slice a2 n2 r2) f.den) (hl : ∀ k, ((Value.slice a1 n1 r1).ownBlock = some k ∨ (Value.slice a2 n2 r2).ownBlock = some k) → k < w.heap.size ∧ v.ownBlock ≠ some k ∧ pv.ownBlock ≠ some k ∧ fv.ownBlock ≠ some k)
    (h : ∀ fg fn fc w', ElS w' B v R C ⟨e.g, e.piv, e.fac ++ [f]⟩ pv (.slice (some ⟨fg, 0, none⟩) fn fc) xs (ps ++ [(.slice a1 n1 r1, .slice a2 n2 r2)]) → w.grownBy w' fv.ownBlock → (fv.ownBlock = some fg ∨ fg = w.heap.size) → K (a.put o.dst (.slice (some ⟨fg, 0, none⟩) fn fc)) w') :
    if Region.wanted o (yielded ops a.tmps) = true then Oper.wp Tryz.prog o a w K Q else E := by
  obtain ⟨i0, hi, hz0, hz1, hz2⟩ := info_parts info_rat
  refine Go.step_append_lies w hgd s x 23 ho B 34 i0 _ 3 56 Tryz.underlying23 hi hz0 hz1 hz2 rfl (by decide) fv e.fac.length (flat e.fac ps) hs hE.F ⟨g, 0, none⟩ 1 c
    [.bool f.neg, .slice a1 n1 r1, .slice a2 n2 r2] hx rfl (World.news_of_block hblk) (by intro u hu; simp at hu; rcases hu with rfl | rfl | rfl <;> rfl) (by decide) (by unfold maxLen; omega) (by omega) hB w.heap.size rfl ?_
  intro g' cap w' hr' hg hgg _
  exact h _ _ _ w' (hE.addF hg hr' (fun k hk => by
    have e : g' = k := by simpa [Value.ownBlock] using hk
    subst e
    rcases hgg with e | e
    · exact .inl e
    · exact .inr (by omega)) hr hl) hg hgg
set_option maxRecDepth 100000 in
/-- a pivot appended, in a region that draws its order -/
theorem step_append_piv {ops : Array Oper} {o : Oper} {a : Act} {K : Act → World → Prop} {Q : Exit → Act → World → Prop} {E : Prop} {w : World} (hgd : o.guard = none) (s x : Operand)
    (ho : o.op = .call { callee := .builtin .append, args := #[s, x], argTypes := #[30, 30] })
    {B : Nat} {v : Value} {R C : Nat} {e : El} {pv fv : Value} {xs ps : List (Value × Value)} (hs : a.eval s = pv) (hE : ElS w B v R C e pv fv xs ps) (hL : e.piv.length ≤ 100000) (hB : B ≤ w.heap.size)
    (ad : Addr) (k : Nat) (hx : a.eval x = .slice (some ad) 1 1) (hc : ∀ j y, [Value.int .i64 (k : Int)][j]? = some y → w.cell? (ad.add j) = some y)
    (h : ∀ fg fn fc w', ElS w' B v R C ⟨e.g, e.piv ++ [k], e.fac⟩ (.slice (some ⟨fg, 0, none⟩) fn fc) fv xs ps → w.grownBy w' pv.ownBlock → (pv.ownBlock = some fg ∨ fg = w.heap.size) → K (a.put o.dst (.slice (some ⟨fg, 0, none⟩) fn fc)) w') :
    if Region.wanted o (yielded ops a.tmps) = true then Oper.wp Tryz.prog o a w K Q else E := by
  obtain ⟨i0, hi, hz0, hz1, hz2⟩ := info_parts info_int
  have hl : (natV e.piv).length = e.piv.length := by simp [natV]
  refine Go.step_append_lies w hgd s x 30 ho B 3 i0 (.int .i64 0) 1 8 Tryz.underlying30 hi hz0 hz1 hz2 rfl (by decide) pv (natV e.piv).length ((natV e.piv).map iV) hs hE.P ad 1 1
    [.int .i64 (k : Int)] hx rfl hc (by simp [Value.oneCell']) (by decide) (by unfold maxLen; omega) (by omega) hB w.heap.size rfl ?_
  intro g' cap w' hr' hg hgg _
  have ho' : OwnI w' B (.slice (some ⟨g', 0, none⟩) ((natV e.piv).length + 1) cap) (natV (e.piv ++ [k])) := by
    have e9 : natV (e.piv ++ [k]) = natV e.piv ++ [(k : Int)] := by simp [natV]
    unfold OwnI
    rw [e9, List.length_append, List.map_append]
    exact hr'
  exact h _ _ _ w' (hE.addP hg ho' (fun j hj => by
    have e : g' = j := by simpa [Value.ownBlock] using hj
    subst e
    rcases hgg with e | e
    · exact .inl e
    · exact .inr (by omega))) hg hgg
theorem PrS.addedF {w w' : World} {B p : Nat} {a : Option Addr} {N cap R C : Nat} {e : El} {pv fv : Value} {xs ps : List (Value × Value)} {f : Fr} {fg fn fc : Nat} {x y : Value} (h : PrS w B p a N cap R C e pv fv xs ps)
    (hS : ElS w' B (.slice a N cap) R C ⟨e.g, e.piv, e.fac ++ [f]⟩ pv (.slice (some ⟨fg, 0, none⟩) fn fc) xs (ps ++ [(x, y)])) (hD : B5 w' p 79 (.int .i64 (R : Int)) (.int .i64 (C : Int)) (.slice a N cap) pv fv) (hfg : fg ≠ p) (hxy : ∀ k, (x.ownBlock = some k ∨ y.ownBlock = some k) → k ≠ p) :
    PrS (w'.setCell ⟨p, 4, none⟩ (.slice (some ⟨fg, 0, none⟩) fn fc)) B p a N cap R C ⟨e.g, e.piv, e.fac ++ [f]⟩ pv (.slice (some ⟨fg, 0, none⟩) fn fc) xs (ps ++ [(x, y)]) := by
  have off : ∀ k, OnE (.slice a N cap) pv (.slice (some ⟨fg, 0, none⟩) fn fc) xs (ps ++ [(x, y)]) k → k ≠ p := by
    rintro k (h1 | h1 | h1 | ⟨q, hq, h1⟩)
    · exact h.off k (.inl h1)
    · exact h.off k (.inr (.inl h1))
    · have e : fg = k := by simpa [Value.ownBlock] using h1
      rw [← e]; exact hfg
    · rcases List.mem_append.1 hq with hq | hq
      · exact h.off k (.inr (.inr (.inr ⟨q, hq, h1⟩)))
      · obtain rfl := List.mem_singleton.1 hq
        exact hxy k h1
  exact ⟨hD.set4 _, hS.setP off, off, h.hB⟩
theorem PrS.addedP {w w' : World} {B p : Nat} {a : Option Addr} {N cap R C : Nat} {e : El} {pv fv : Value} {xs ps : List (Value × Value)} {k : Nat} {fg fn fc : Nat} (h : PrS w B p a N cap R C e pv fv xs ps)
    (hS : ElS w' B (.slice a N cap) R C ⟨e.g, e.piv ++ [k], e.fac⟩ (.slice (some ⟨fg, 0, none⟩) fn fc) fv xs ps) (hD : B5 w' p 79 (.int .i64 (R : Int)) (.int .i64 (C : Int)) (.slice a N cap) pv fv) (hfg : fg ≠ p) :
    PrS (w'.setCell ⟨p, 3, none⟩ (.slice (some ⟨fg, 0, none⟩) fn fc)) B p a N cap R C ⟨e.g, e.piv ++ [k], e.fac⟩ (.slice (some ⟨fg, 0, none⟩) fn fc) fv xs ps := by
  have off : ∀ k, OnE (.slice a N cap) (.slice (some ⟨fg, 0, none⟩) fn fc) fv xs ps k → k ≠ p := by
    rintro k (h1 | h1 | h1)
    · exact h.off k (.inl h1)
    · have e : fg = k := by simpa [Value.ownBlock] using h1
      rw [← e]; exact hfg
    · exact h.off k (.inr (.inr h1))
  exact ⟨hD.set3 _, hS.setP off, off, h.hB⟩
theorem impl_m1 (w : World) : Calls Tryz.prog 59 #[.int .i64 (-1)] w fun r w' => ∃ a c d b, r = .returned (.agg #[.bool m1F.neg, .slice a m1F.mag.length c, .slice d m1F.den.length b]) ∧ OwnR w' w.heap.size (.slice a m1F.mag.length c) m1F.mag (.slice d m1F.den.length b) m1F.den ∧ Below w.heap.size w w' := by
  have h := impl_ratFromIntL (-1) w (by omega)
  have e := m1_eq
  have e1 : ofB (-1) = m1F.neg := congrArg Fr.neg e
  have e2 : ofL (-1) = m1F.mag := congrArg Fr.mag e
  have e3 : oneL = m1F.den := congrArg Fr.den e
  rw [e1, e2, e3] at h
  refine h.mono ?_
  rintro r w' ⟨v, d, rfl, ho, hb⟩
  obtain ⟨a, c, d, b, rfl, rfl⟩ := ho.slices
  exact ⟨a, c, d, b, rfl, ho, hb⟩

set_option maxRecDepth 100000 in
set_option maxHeartbeats 4000000 in
theorem impl_exchange (p q N cap B R C i n : Nat) (e : El) (pv fv : Value) (xs ps : List (Value × Value)) (w : World) (h : PrS w B p (some ⟨q, 0, none⟩) N cap R C e pv fv xs ps) (hN : N = R * C) (hR : R ≤ 24) (hC : C ≤ 24) (hC0 : 0 < C) (hi : i < R) (hn : n < R) (hB : B ≤ w.heap.size) (hfl : e.fac.length ≤ 1000) :
    Calls Tryz.prog 162 #[.pointer (some ⟨p, 0, none⟩), .int .i64 (i : Int), .int .i64 (n : Int)] w fun r w' => (∃ v, r = .returned v) ∧ (∃ fv' xs' ps', PrS w' B p (some ⟨q, 0, none⟩) N cap R C ⟨exG e.g i n, e.piv, e.fac ++ (if i = n then [] else [m1F])⟩ pv fv' xs' ps' ∧ (∀ j, fv'.ownBlock = some j → fv.ownBlock = some j ∨ w.heap.size ≤ j)) ∧ Kept (fun j => j = q ∨ j = p ∨ fv.ownBlock = some j) w w' ∧ Below B w w' := by
  have hRC : R * C ≤ 24 * 24 := Nat.mul_le_mul hR hC
  have hN9 : N ≤ 576 := by omega
  have HN := Lib.hid hN
  have HB9 := Lib.hid hB
  have hcap : N ≤ cap ∧ cap ≤ 9223372036854775807 := by
    obtain ⟨a9, c9, e9, z1, z2⟩ := ratsAt_form h.S.V.rats
    injection e9 with e1 e2 e3
    have := h.S.V.count
    omega
  obtain ⟨FX, hFX⟩ : ∃ x, x = e.fac ++ (if i = n then [] else [m1F]) := ⟨_, rfl⟩
  rw [← hFX]
  have HFX := Lib.hid hFX
  clear hFX
  by_cases hin : i = n
  · have he : ((i : Int) == (n : Int)) = true := by rw [beq_iff_eq]; omega
    have HS := Lib.hid (show PrS w B p (some ⟨q, 0, none⟩) N cap R C ⟨exG e.g i n, e.piv, FX⟩ pv fv xs ps by
      rw [HFX.out, if_pos hin, List.append_nil, hin, exG_self]; exact h)
    clear h hN hin
    go_enter Tryz.func162, Tryz.ntmps162
    go_wp2_with fail
    refine bodyPost_ret (results_none rfl _ _ _) rfl ?_
    exact ⟨⟨_, rfl⟩, ⟨_, _, _, HS.out, fun j hj => .inl hj⟩, Kept.refl _ _, Below.refl _ _⟩
  · have he : ((i : Int) == (n : Int)) = false := by rw [beq_eq_false_iff_ne]; omega
    have HFE := Lib.hid (show FX = e.fac ++ [m1F] by rw [HFX.out, if_neg hin])
    have hi9 := row_in (C := C) hi
    have hn9 := row_in (C := C) hn
    obtain ⟨l1, hl1⟩ : ∃ l, i * C * 3 = l := ⟨_, rfl⟩
    obtain ⟨l2, hl2⟩ : ∃ l, n * C * 3 = l := ⟨_, rfl⟩
    have HR1 := Lib.hid (fun W (hW : Below w.heap.size w W) => (impl_row (R : Int) C i N (some ⟨q, 0, none⟩) cap W (by omega) hN9 hC (by omega) hcap.1 hcap.2).mono (R' := fun e w' => e = .returned (.slice (some ⟨q, l1, none⟩) C C) ∧ Below w.heap.size w w') (fun e w' ⟨he, hb⟩ => ⟨by rw [he, rowV_some hC0, Nat.zero_add, hl1], hW.trans (hb.mono hW.size)⟩))
    have HR2 := Lib.hid (fun W (hW : Below w.heap.size w W) => (impl_row (R : Int) C n N (some ⟨q, 0, none⟩) cap W (by omega) hN9 hC (by omega) hcap.1 hcap.2).mono (R' := fun e w' => e = .returned (.slice (some ⟨q, l2, none⟩) C C) ∧ Below w.heap.size w w') (fun e w' ⟨he, hb⟩ => ⟨by rw [he, rowV_some hC0, Nat.zero_add, hl2], hW.trans (hb.mono hW.size)⟩))
    have HL1 := Lib.hid hl1
    have HL2 := Lib.hid hl2
    have HP := Lib.hid h
    have d0 := h.D.c0
    have d1 := h.D.c1
    have d2 := h.D.c2
    have HS := Lib.hid (show ∀ W : World, Below w.heap.size w W → (W.cell? ⟨p, 0, none⟩ = some (.int .i64 (R : Int)) ∧ W.cell? ⟨p, 1, none⟩ = some (.int .i64 (C : Int)) ∧ W.cell? ⟨p, 2, none⟩ = some (.slice (some ⟨q, 0, none⟩) N cap)) from fun W hW => ⟨(HP.out.D.below hW).c0, (HP.out.D.below hW).c1, (HP.out.D.below hW).c2⟩)
    have HIN := Lib.hid hin
    clear h hN hl1 hl2 hi9 hn9 hRC hin
    go_enter Tryz.func162, Tryz.ntmps162
    go_wp2_with fail
    go_region_held3 (fun w' => w'.cell? ⟨p, 0, none⟩ = some (.int .i64 (R : Int)) ∧ w'.cell? ⟨p, 1, none⟩ = some (.int .i64 (C : Int)) ∧ w'.cell? ⟨p, 2, none⟩ = some (.slice (some ⟨q, 0, none⟩) N cap))
      (exact HS.out _ (by first | with_reducible exact Below.refl _ _ | with_reducible exact (Below.refl _ _).drew | with_reducible exact bb_a | with_reducible exact bb_b | with_reducible exact bb_m | with_reducible exact bb_s | with_reducible exact bb_d | fail))
      (first
        | (go_at_call 75; with_reducible refine (HR1.out _ (by first | with_reducible exact Below.refl _ _ | with_reducible exact (Below.refl _ _).drew | with_reducible exact bb_a | with_reducible exact bb_b | with_reducible exact bb_m | with_reducible exact bb_s | with_reducible exact bb_d | fail)).mono ?_; rintro ee w_a ⟨rfl, bb_a⟩)
        | (go_at_call 75; with_reducible refine (HR2.out _ (by first | with_reducible exact Below.refl _ _ | with_reducible exact (Below.refl _ _).drew | with_reducible exact bb_a | with_reducible exact bb_b | with_reducible exact bb_m | with_reducible exact bb_s | with_reducible exact bb_d | fail)).mono ?_; rintro ee w_b ⟨rfl, bb_b⟩))
    have PB := Lib.hid (show PrS w_b B p (some ⟨q, 0, none⟩) N cap R C ⟨exP e.g i n 0, e.piv, e.fac⟩ pv fv xs ps by rw [exP_zero]; exact HP.out.below bb_b)
    have BB0 := Lib.hid (bb_b.mono hB)
    have KK0 := Lib.hid (show Kept (fun j => j = q) w w_b from Kept.of_below bb_b)
    clear HR1 HR2 HS HP bb_a bb_b d0 d1 d2
    go_wp2_with fail
    go_loopw [26] (fun cv wi => ∃ (j : Nat) (zs : List (Value × Value)), j ≤ C ∧ cv = .int .i64 j ∧ Hid (PrS wi B p (some ⟨q, 0, none⟩) N cap R C ⟨exP e.g i n j, e.piv, e.fac⟩ pv fv zs ps) ∧ Hid (Below B w wi) ∧ Hid (Kept (fun j => j = q) w wi)) (fun cv _ => C - (intOf cv).toNat)
    case atStart => exact ⟨0, xs, Nat.zero_le _, rfl, PB, BB0, KK0⟩
    case round =>
      clear PB BB0 KK0 xs
      obtain ⟨j, xs, hj, rfl, P, BB, KK⟩ := hrel
      by_cases hlj : j < C
      · have hnj : n * C + j < N := by have := at_lt hn hlj; rw [HN.out]; exact this
        have hij : i * C + j < N := by have := at_lt hi hlj; rw [HN.out]; exact this
        obtain ⟨a3, r3, a4, r4, hc3, hr3, hp3, -⟩ := elem_at P.out.S.V' HN.out hn hlj
        obtain ⟨a5, r5, a6, r6, hc5, hr5, hp5, -⟩ := elem_at P.out.S.V' HN.out hi hlj
        have E3 : exP e.g i n j n j = e.g n j := by unfold exP; rw [if_neg (by omega)]
        have E5 : exP e.g i n j i j = e.g i j := by unfold exP; rw [if_neg (by omega)]
        rw [E3] at hc3 hr3 hp3
        rw [E5] at hc5 hr5 hp5
        obtain ⟨y, hy⟩ : ∃ y, y = e.g n j := ⟨_, rfl⟩
        obtain ⟨x, hx⟩ : ∃ x, x = e.g i j := ⟨_, rfl⟩
        rw [← hy] at hc3 hr3 hp3 E3
        rw [← hx] at hc5 hr5 hp5 E5
        have HXY := Lib.hid (And.intro hx hy)
        have HE3 := Lib.hid (And.intro E3 E5)
        clear hx hy E3 E5
        have HK1 := Lib.hid (show (i * C + j) * 3 = l1 + j * 3 by rw [← HL1.out]; omega)
        have HK2 := Lib.hid (show (n * C + j) * 3 = l2 + j * 3 by rw [← HL2.out]; omega)
        rw [HK1.out] at hc5
        rw [HK2.out] at hc3
        have s0 := hc5.1
        have s1 := hc5.2.1
        have s2 := hc5.2.2
        have u0 := hc3.1
        have u1 := hc3.2.1
        have u2 := hc3.2.2
        have t0 := P.out.S.V'.frozen (l1 + j * 3)
        have t1 := P.out.S.V'.frozen (l1 + j * 3 + 1)
        have t2 := P.out.S.V'.frozen (l1 + j * 3 + 2)
        have t3 := P.out.S.V'.frozen (l2 + j * 3)
        have t4 := P.out.S.V'.frozen (l2 + j * 3 + 1)
        have t5 := P.out.S.V'.frozen (l2 + j * 3 + 2)
        have v3 := P.out.S.V'.after3 (i * C + j) (n * C + j) (.bool y.neg) (.slice a3 y.mag.length r3) (.slice a4 y.den.length r4) (by rw [tabM_len, ← HN.out]; exact hnj) rfl
        rw [HK1.out, HK2.out] at v3
        obtain ⟨⟨z0, y0⟩, ⟨z1, y1⟩, ⟨z2, y2⟩, t6, t7, t8⟩ := v3
        obtain ⟨ys, SWV, SWO⟩ := swap_at P.out.S.V' hi hn hlj hp5 hp3 rfl rfl
        have KF := kept6 wr q (i * C + j) (n * C + j) (.bool y.neg) (.slice a3 y.mag.length r3) (.slice a4 y.den.length r4) (.bool x.neg) (.slice a5 x.mag.length r5) (.slice a6 x.den.length r6)
        rw [HE3.out.1, HE3.out.2] at SWV
        dsimp only at SWV
        rw [show ((tabM R C (exP e.g i n j)).set (i * C + j) y).set (n * C + j) x = tabM R C (exP e.g i n (j + 1)) by rw [HXY.out.2, HXY.out.1]; exact exP_step hi hn hlj, HK1.out, HK2.out] at SWV
        rw [HK1.out, HK2.out] at KF
        have PW := Lib.hid (P.out.cells SWV KF (fun b hb => .inl (by rw [hb]; rfl)) (fun b hb => .inl (SWO b hb)))
        have BW := Lib.hid (below_kept BB.out KF (Nat.le_trans HB9.out BB.out.size) (fun b hb => by rw [hb]; exact (P.out.S.V'.lt q (.inl rfl)).1))
        have KW := Lib.hid (KK.out.trans KF)
        have x1 : (0 : Int) ≤ (j : Int) := by omega
        have x2 : (j : Int) < (C : Int) := by omega
        clear SWV KF SWO hc3 hc5 hr3 hr5 hp3 hp5 P BB KK hnj hij
        go_wp2_with fail
        go_region
        go_wp2_with fail
        exact ⟨⟨j + 1, ys, by omega, by go_num, Lib.hid PW.out.drew, Lib.hid BW.out.drew, Lib.hid KW.out.drew⟩, by simp [intOf]; omega⟩
      · have hjC : C = j := by omega
        subst hjC
        have P2 := Lib.hid (P.out.re (exP_end e.g i n))
        clear P
        have BS := Lib.hid (Nat.le_trans HB9.out BB.out.size)
        have DH := Lib.hid (fun W (hW : Below wr.heap.size wr W) => P2.out.D.below hW)
        have SH := Lib.hid (fun W (hW : Below wr.heap.size wr W) => P2.out.S.below hW)
        have LA := Lib.hid P2.out.S.lt_all
        have HM1 := Lib.hid (fun W (hW : Below wr.heap.size wr W) => (impl_m1 W).mono (R' := fun r w' => ∃ a c d b, r = .returned (.agg #[.bool m1F.neg, .slice a m1F.mag.length c, .slice d m1F.den.length b]) ∧ OwnR w' wr.heap.size (.slice a m1F.mag.length c) m1F.mag (.slice d m1F.den.length b) m1F.den ∧ Below wr.heap.size wr w') (fun e w' ⟨a, c, d, b, he, ho, hb⟩ => ⟨a, c, d, b, he, ho.base hW.size, hW.trans (hb.mono hW.size)⟩))
        have hpl := P2.out.D.lt
        have s4 := P2.out.D.c4
        have s5 := P2.out.D.f 4
        have TST := Lib.hid (show ∀ (w_m : World) (a_m : Option Addr) (c_m : Nat) (d_m : Option Addr) (b_m : Nat), OwnR w_m wr.heap.size (.slice a_m m1F.mag.length c_m) m1F.mag (.slice d_m m1F.den.length b_m) m1F.den → Below wr.heap.size wr w_m →
            (ElS (w_m.alloc (.cells #[.bool m1F.neg, .slice a_m m1F.mag.length c_m, .slice d_m m1F.den.length b_m] 34)) B (.slice (some ⟨q, 0, none⟩) N cap) R C ⟨exG e.g i n, e.piv, e.fac⟩ pv fv xs ps ∧ B ≤ (w_m.alloc (.cells #[.bool m1F.neg, .slice a_m m1F.mag.length c_m, .slice d_m m1F.den.length b_m] 34)).heap.size ∧ (w_m.alloc (.cells #[.bool m1F.neg, .slice a_m m1F.mag.length c_m, .slice d_m m1F.den.length b_m] 34)).heap[w_m.heap.size]? = some (.cells #[.bool m1F.neg, .slice a_m m1F.mag.length c_m, .slice d_m m1F.den.length b_m] 34 (0, 0)) ∧ RowR (w_m.alloc (.cells #[.bool m1F.neg, .slice a_m m1F.mag.length c_m, .slice d_m m1F.den.length b_m] 34)) (.slice a_m m1F.mag.length c_m) m1F.mag (.slice d_m m1F.den.length b_m) m1F.den ∧
              (∀ k, ((Value.slice a_m m1F.mag.length c_m).ownBlock = some k ∨ (Value.slice d_m m1F.den.length b_m).ownBlock = some k) → k < (w_m.alloc (.cells #[.bool m1F.neg, .slice a_m m1F.mag.length c_m, .slice d_m m1F.den.length b_m] 34)).heap.size ∧ (Value.slice (some ⟨q, 0, none⟩) N cap).ownBlock ≠ some k ∧ pv.ownBlock ≠ some k ∧ fv.ownBlock ≠ some k)) from by
          intro w_m a_m c_m d_m b_m o_m bb_m
          have hbb := bb_m.size
          have lr := o_m.lt
          have hbs := BS.out
          refine ⟨(SH.out _ bb_m).alloc _, by simp; omega, World.alloc_heap_new _ _, (o_m.alloc _).row, fun b hb => ⟨by have := (lr b hb).2; simp; omega, fun h1 => ?_, fun h1 => ?_, fun h1 => ?_⟩⟩
          · have h3 := (lr b hb).1; have h4 := LA.out b (.inl (.inl h1)); omega
          · have h3 := (lr b hb).1; have h4 := LA.out b (.inr (.inl h1)); omega
          · have h3 := (lr b hb).1; have h4 := LA.out b (.inr (.inr (.inl h1))); omega)
        have HFL := Lib.hid (show e.fac.length ≤ 100000 by omega)
        go_wp2_with fail
        go_region_law (first
          | (obtain ⟨t1, t2, t3, t4, t5⟩ := TST.out _ _ _ _ _ O_m.out bb_m; refine step_append_fac rfl _ _ rfl rfl t1 HFL.out t2 _ _ rfl m1F _ _ _ _ _ _ t3 t4 t5 ?_; intro fg fn fc w_n S_n g_n q_n; have D5 := ((DH.out _ bb_m).alloc (.cells #[.bool m1F.neg, .slice a_m m1F.mag.length c_m, .slice d_m m1F.den.length b_m] 34)).keptK (Kept.of_grown g_n) (fun e9 => P2.out.off p (.inr (.inr (.inl e9))) rfl); have s4 := D5.c4; have s5 := D5.f 4)
          | (go_simp; go_at_call 59; refine (HM1.out _ (by first | with_reducible exact Below.refl _ _ | with_reducible exact (Below.refl _ _).drew | fail)).mono ?_; rintro ee w_m ⟨a_m, c_m, d_m, b_m, rfl, o_m, bb_m⟩; have O_m := Lib.hid o_m; clear o_m; have q4 := ((DH.out _ bb_m).alloc (.cells #[.bool m1F.neg, .slice a_m m1F.mag.length c_m, .slice d_m m1F.den.length b_m] 34)).c4; have Y9 := DH.out _ bb_m; have s4 := Y9.c4; have s5 := Y9.f 4)
          | fail)
        all_goals (have hbb := bb_m.size)
        all_goals (have hbs := BS.out)
        all_goals (have PF := Lib.hid (P2.out.addedF S_n D5 (by
          rcases q_n with h9 | h9
          · exact P2.out.off fg (.inr (.inr (.inl h9)))
          · intro e9; simp at h9; omega) (fun b hb => by have := (O_m.out.lt b hb).1; omega)))
        all_goals (have BF := Lib.hid ((((BB.out.trans (bb_m.mono hbs)).alloc (by omega) (.cells #[.bool m1F.neg, .slice a_m m1F.mag.length c_m, .slice d_m m1F.den.length b_m] 34)).grown g_n (by simp; omega) (fun b hb => (P2.out.S.F.lt b hb).1)).setCell (p := ⟨p, 4, none⟩) P2.out.hB (.slice (some ⟨fg, 0, none⟩) fn fc)))
        all_goals (have KF := Lib.hid (show Kept (fun j => j = q ∨ j = p ∨ fv.ownBlock = some j) w _ from (((KK.out.mono (fun j e => .inl e)).trans (Kept.of_below (bb_m.alloc hbb (.cells #[.bool m1F.neg, .slice a_m m1F.mag.length c_m, .slice d_m m1F.den.length b_m] 34)))).trans ((Kept.of_grown g_n).mono (fun j e => .inr (.inr e)))).trans ((kept_set w_n p 4 (.slice (some ⟨fg, 0, none⟩) fn fc)).mono (fun j e => .inr (.inl e)))))
        all_goals (have QF := Lib.hid (show ∀ j, (Value.slice (some ⟨fg, 0, none⟩) fn fc).ownBlock = some j → fv.ownBlock = some j ∨ w.heap.size ≤ j from fun j hj => by
          have e9 : fg = j := by simpa [Value.ownBlock] using hj
          rw [← e9]
          have hkk := KK.out.size
          rcases q_n with h9 | h9
          · exact .inl h9
          · right; simp at h9; omega))
        all_goals clear S_n D5 g_n q_n TST HM1 SH DH LA s4 s5
        all_goals go_wp2
        all_goals go_end0
        all_goals first | exact ⟨⟨_, rfl⟩, ⟨_, ⟨_, _, by rw [HFE.out]; exact PF.out⟩, QF.out⟩, KF.out, BF.out⟩ | exact ⟨⟨_, rfl⟩, ⟨_, _, _, by rw [HFE.out]; exact PF.out, QF.out⟩, KF.out, BF.out⟩

end Go.Proofs.YtlepgkkpopjgoaaGreat
