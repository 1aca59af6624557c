/- slices.Repeat of one fraction. -/
import Derived.Test.YtlepgkkpopjgoaaGreatXShelf
import Derived.Test.YtlepgkkpopjgoaaGreatXVecOk
import Derived.Test.YtlepgkkpopjgoaaGreatXElDiv
import Derived.Laws.CopyRow
import Derived.Laws.CopyOwn
import Derived.Deep.RegionLaw
import Derived.Deep.CutBlock
import Derived.Deep.CutRange
import Derived.Deep.RegionHeld3
namespace Go.Proofs.YtlepgkkpopjgoaaGreat
open Go.RowKit Go.WideShapes Go.ChangeShapes
set_option linter.unusedVariables false
set_option linter.unusedSimpArgs false
theorem flat_append : ∀ (L M : List Fr) (xs ys : List (Value × Value)), xs.length = L.length → flat (L ++ M) (xs ++ ys) = flat L xs ++ flat M ys
 | [], M, [], ys, _ => rfl
 | x :: L, M, p :: xs, ys, h => by
  simp only [List.cons_append, flat, flat_append L M xs ys (by simpa using h)]
def repC (f : Fr) (p : Value × Value) (n k : Nat) : List Value := flat (List.replicate k f ++ List.replicate (n - k) Fr.zero) (List.replicate k p ++ List.replicate (n - k) (.slice none 0 0, .slice none 0 0))
def repP (f : Fr) (p : Value × Value) (m : Nat) : List Value := flat (List.replicate m f) (List.replicate m p)
theorem repP_len (f : Fr) (p : Value × Value) (m : Nat) : (repP f p m).length = m * 3 := by unfold repP; rw [flat_len _ _ (by simp)]; simp
theorem repC_split (f : Fr) (p : Value × Value) (n k : Nat) : repC f p n k = repP f p k ++ repP Fr.zero (.slice none 0 0, .slice none 0 0) (n - k) := flat_append _ _ _ _ (by simp)
theorem repP_add (f : Fr) (p : Value × Value) (a b : Nat) : repP f p (a + b) = repP f p a ++ repP f p b := by
 unfold repP
 rw [← List.replicate_append_replicate, ← List.replicate_append_replicate, flat_append _ _ _ _ (by simp)]
theorem repC_len {f : Fr} {p : Value × Value} {n k : Nat} (hk : k ≤ n) : (repC f p n k).length = n * 3 := by
 rw [repC_split, List.length_append, repP_len, repP_len]; omega
theorem repC_step {f : Fr} {p : Value × Value} {n k m : Nat} (h : k + m ≤ n) : (repC f p n k).take (k * 3) ++ repP f p m ++ (repC f p n k).drop (k * 3 + m * 3) = repC f p n (k + m) := by
 have e1 : n - k = m + (n - (k + m)) := by omega
 rw [repC_split f p n k, repC_split f p n (k + m), repP_add f p k m, e1, repP_add _ _ m]
 rw [List.take_append_of_le_length (by rw [repP_len]; omega), List.take_of_length_le (by rw [repP_len]; omega)]
 rw [List.drop_append, repP_len, List.drop_eq_nil_of_le (by rw [repP_len]; omega), List.nil_append]
 rw [show k * 3 + m * 3 - k * 3 = m * 3 by omega, List.drop_append, repP_len, List.drop_eq_nil_of_le (by rw [repP_len]; omega), List.nil_append, Nat.sub_self, List.drop_zero]
theorem repC_prefix {f : Fr} {p : Value × Value} {n k m j : Nat} {v : Value} (h : m ≤ k) (hj : (repP f p m)[j]? = some v) : (repC f p n k)[j]? = some v := by
 obtain ⟨hl, he⟩ := List.getElem?_eq_some_iff.1 hj
 rw [repC_split, show k = m + (k - m) by omega, repP_add, List.append_assoc, List.getElem?_append_left (by exact hl)]
 exact hj
theorem repP_one (f : Fr) (p : Value × Value) : repP f p 1 = [.bool f.neg, p.1, p.2] := rfl
theorem repP_cell {f : Fr} {a : Option Addr} {c : Nat} {e : Option Addr} {k n m j : Nat} : ∀ v ∈ repP f (.slice a n c, .slice e m k) j, v.oneCell' = true := by
 intro v hv
 induction j with
 | zero => simp [repP, flat] at hv
 | succ j ih =>
  rw [repP_add, List.mem_append] at hv
  rcases hv with hv | hv
  ·exact ih hv
  ·rw [repP_one] at hv
   simp at hv
   rcases hv with rfl | rfl | rfl <;> rfl
theorem run_copy3 (w : World) (dT sT ty : TypeId) (g o dLen dCap : Nat) (a : Addr) (sLen sCap m : Nat) (cur : Array Value) (t : TypeId) (cs : List Value)
  (hu : Tryz.prog.underlying dT = some (.slice 34))
  (hg : w.heap[g]? = some (.cells cur t (0, 0))) (hm : Nat.min sLen dLen = m) (hn : cs.length = m * 3)
  (hsrc : ∀ j v, cs[j]? = some v → w.cell? (a.add j) = some v) (hfit : o + cs.length ≤ cur.size) (h1 : ∀ v ∈ cs, v.oneCell' = true) :
  (Builtin.copy_ #[dT, sT] ty #[.slice (some ⟨g, o, none⟩) dLen dCap, .slice (some a) sLen sCap]).run Tryz.prog w =
   .ok (goInt m) (w.setRow g (cur.toList.take o ++ cs ++ cur.toList.drop (o + cs.length)).toArray) := by
 have hl := run_loadCells_list (P := Tryz.prog) w a cs hsrc
 have hst := run_storeCells_at Tryz.prog g o t cs 0 cur w hg (by simpa using hfit) h1
 obtain ⟨i0, hi, hz0, hz1, hz2⟩ := info_parts info_rat
 rw [hn] at hl
 simp [Builtin.copy_, run_underlying hu, Builtin.lenOf, Builtin.firstCells, sizeOf, typeInfo, hi, hz1, hm, hl, hst]
theorem copy3_list {ops : Array Oper} {rest : List Oper} {o : Oper} {a : Act} {Q : Exit → Act → World → Prop} {w : World} (hgd : o.guard = none) (d s : Operand) (dT sT : TypeId)
  (hu : Tryz.prog.underlying dT = some (.slice 34))
  (ho : o.op = .call { callee := .builtin .copy, args := #[d, s], argTypes := #[dT, sT] }) (g off dLen dCap : Nat) (ad : Addr) (sLen sCap m : Nat)
  (hd : a.eval d = .slice (some ⟨g, off, none⟩) dLen dCap) (hs : a.eval s = .slice (some ad) sLen sCap)
  (cur : List Value) (t : TypeId) (cs : List Value) (hg : w.heap[g]? = some (.cells cur.toArray t (0, 0))) (hm : Nat.min sLen dLen = m) (hn : cs.length = m * 3)
  (hsrc : ∀ j v, cs[j]? = some v → w.cell? (ad.add j) = some v) (hfit : off + cs.length ≤ cur.length) (h1 : ∀ v ∈ cs, v.oneCell' = true)
  (h : ∀ w', Hid (w'.heap[g]? = some (.cells (cur.take off ++ cs ++ cur.drop (off + cs.length)).toArray t (0, 0))) → w' = w.setRow g (cur.take off ++ cs ++ cur.drop (off + cs.length)).toArray → wpList Tryz.prog ops Q rest (a.put o.dst (goInt m)) w') : wpList Tryz.prog ops Q (o :: rest) a w := by
 refine wpList_plain hgd fun K hK => ?_
 have hrun := run_copy3 w dT sT o.type g off dLen dCap ad sLen sCap m cur.toArray t cs hu hg hm hn hsrc (by simpa using hfit) h1
 unfold Oper.wp
 simp [execOp, ho, resolve, invoke, builtin, hd, hs, hrun, Result.andThen]
 have h2 := h _ (Lib.hid (setRow_heap w g cur.toArray _ t _ hg)) rfl
 simp at h2
 exact hK _ _ h2
theorem step_copy3 {ops : Array Oper} {o : Oper} {a : Act} {w : World} {K : Act → World → Prop} {Q : Exit → Act → World → Prop} {E : Prop} (hgd : o.guard = none) (d s : Operand) (dT sT : TypeId)
  (hu : Tryz.prog.underlying dT = some (.slice 34))
  (ho : o.op = .call { callee := .builtin .copy, args := #[d, s], argTypes := #[dT, sT] }) (g off dLen dCap : Nat) (ad : Addr) (sLen sCap m : Nat)
  (hd : a.eval d = .slice (some ⟨g, off, none⟩) dLen dCap) (hs : a.eval s = .slice (some ad) sLen sCap)
  (cur : List Value) (t : TypeId) (cs : List Value) (hg : w.heap[g]? = some (.cells cur.toArray t (0, 0))) (hm : Nat.min sLen dLen = m) (hn : cs.length = m * 3)
  (hsrc : ∀ j v, cs[j]? = some v → w.cell? (ad.add j) = some v) (hfit : off + cs.length ≤ cur.length) (h1 : ∀ v ∈ cs, v.oneCell' = true)
  (h : ∀ w', Hid (w'.heap[g]? = some (.cells (cur.take off ++ cs ++ cur.drop (off + cs.length)).toArray t (0, 0))) → w' = w.setRow g (cur.take off ++ cs ++ cur.drop (off + cs.length)).toArray → K (a.put o.dst (goInt m)) w') :
  if Region.wanted o (yielded ops a.tmps) = true then Oper.wp Tryz.prog o a w K Q else E := by
 have hw : Region.wanted o (yielded ops a.tmps) = true := by simp [Region.wanted, hgd]
 rw [if_pos hw]
 have hrun := run_copy3 w dT sT o.type g off dLen dCap ad sLen sCap m cur.toArray t cs hu hg hm hn hsrc (by simpa using hfit) h1
 unfold Oper.wp
 simp [execOp, ho, resolve, invoke, builtin, hd, hs, hrun, Result.andThen]
 have h2 := h _ (Lib.hid (setRow_heap w g cur.toArray _ t _ hg)) rfl
 simp at h2
 exact h2
theorem heap_cell {w : World} {g j : Nat} {cur : List Value} {t : TypeId} {v : Value} (hg : w.heap[g]? = some (.cells cur.toArray t (0, 0))) (hj : cur[j]? = some v) : w.cell? ⟨g, j, none⟩ = some v := by
 simp [World.cell?, hg, hj]
theorem repC_rats {w : World} {g n : Nat} {f : Fr} {p q : Value} (hn : n ≤ 24) (hg : w.heap[g]? = some (.cells (repC f (p, q) n n).toArray 34 (0, 0))) (hr : RowR w p f.mag q f.den) : RatsAt w (.slice (some ⟨g, 0, none⟩) n n) (List.replicate n f) := by
 refine ⟨some ⟨g, 0, none⟩, n, by simp, by simp, by unfold maxLen; omega, fun i hi => ?_⟩
 rw [List.length_replicate] at hi
 have e : repC f (p, q) n n = flat (List.replicate n f) (List.replicate n (p, q)) := by rw [repC_split, Nat.sub_self]; exact List.append_nil _
 obtain ⟨f0, f1, f2⟩ := flat_at (List.replicate n f) (List.replicate n (p, q)) i (by simpa using hi) (by simpa using hi)
 simp only [List.getElem_replicate] at f0 f1 f2
 rw [← e] at f0 f1 f2
 refine ⟨g, 0, p, q, rfl, ?_, ?_, ?_, ?_⟩
 ·rw [Nat.zero_add]; simpa using heap_cell hg f0
 ·rw [Nat.zero_add]; exact heap_cell hg f1
 ·rw [Nat.zero_add]; exact heap_cell hg f2
 ·simpa using hr
theorem zeroV_rep (f : Fr) (p : Value × Value) (n : Nat) : zeroV n = .cells (repC f p n 0).toArray 34 := by
 have e : (madeCells #[Value.bool false, .slice none 0 0, .slice none 0 0] (n * 3)) = (repC f p n 0).toArray := by
  apply Array.ext'
  rw [made_flat, repC_split]
  simp [repP, flat]
 unfold zeroV
 rw [e]
theorem rep_src {W : World} {g0 : Nat} {f : Fr} {p q : Value} {m : Nat} (hm : m ≤ 1) (hb : W.heap[g0]? = some (.cells #[.bool f.neg, p, q] 34 (0, 0))) : ∀ j v, (repP f (p, q) m)[j]? = some v → W.cell? ((⟨g0, 0, none⟩ : Addr).add j) = some v := by
 intro j v hj
 have e9 : (⟨g0, 0, none⟩ : Addr).add j = ⟨g0, j, none⟩ := by simp [Addr.add]; exact fun h => h.symm
 rw [e9]
 have h1 : m = 0 ∨ m = 1 := by omega
 rcases h1 with rfl | rfl
 ·simp [repP, flat] at hj
 ·rw [repP_one] at hj
  exact heap_cell (cur := [.bool f.neg, p, q]) hb hj
theorem rep_src2 {W : World} {g n k m : Nat} {f : Fr} {p : Value × Value} (hm : m ≤ k) (hb : W.heap[g]? = some (.cells (repC f p n k).toArray 34 (0, 0))) : ∀ j v, (repP f p m)[j]? = some v → W.cell? ((⟨g, 0, none⟩ : Addr).add j) = some v := by
 intro j v hj
 have e9 : (⟨g, 0, none⟩ : Addr).add j = ⟨g, j, none⟩ := by simp [Addr.add]; exact fun h => h.symm
 rw [e9]
 exact heap_cell hb (repC_prefix hm hj)
set_option maxRecDepth 100000 in
set_option maxHeartbeats 2000000 in
theorem impl_repeat (f : Fr) (a : Option Addr) (c : Nat) (e : Option Addr) (k0 : Nat) (nx nd : Nat) (g0 n : Nat) (hn : n ≤ 24) (w : World) (hr : RowR w (.slice a nx c) f.mag (.slice e nd k0) f.den)
  (hb : w.heap[g0]? = some (.cells #[.bool f.neg, .slice a nx c, .slice e nd k0] 34 (0, 0))) :
  Calls Tryz.prog 183 #[.slice (some ⟨g0, 0, none⟩) 1 1, .int .i64 (n : Int)] w fun r w' => ∃ v, r = .returned v ∧ RatsAt w' v (List.replicate n f) ∧ Below w.heap.size w w' := by
 have HR := Lib.hid hr
 have HB0 := Lib.hid hb
 have hlt0 := (Array.getElem?_eq_some_iff.1 hb).1
 have HM1 : Calls Tryz.prog 193 #[.int .u64 1, .int .u64 (n : Int)] w fun e w' => e = .returned (.tuple #[.int .u64 0, .int .u64 (n : Int)]) ∧ w' = w := by
  have h := Tryz.bits_Mul 1 n (by omega) (by omega) w
  rw [show 1 * n / 18446744073709551616 = 0 by omega, show 1 * n % 18446744073709551616 = n by omega] at h
  exact h
 have HMk := make_rats n (by omega) w
 clear hr hb
 go_enter Tryz.func183, Tryz.ntmps183
 go_wp2_with fail
 refine HM1.mono ?_
 rintro e9 w9 ⟨rfl, h9⟩
 replace h9 := h9.symm
 subst h9
 obtain ⟨m, hm⟩ : ∃ m, Nat.min 1 n = m := ⟨_, rfl⟩
 have hm1 : m ≤ 1 := by rw [← hm]; exact Nat.min_le_left _ _
 have hmn : m ≤ n := by rw [← hm]; exact Nat.min_le_right _ _
 have hm0 : 0 < n → 0 < m := fun h => by rw [← hm]; exact (Nat.lt_min.2 ⟨Nat.one_pos, h⟩)
 obtain ⟨W1, hW1⟩ : ∃ x, x = w.alloc (zeroV n) := ⟨_, rfl⟩
 have hz : W1.heap[w.heap.size]? = some (.cells (repC f (.slice a nx c, .slice e nd k0) n 0).toArray 34 (0, 0)) := by
  rw [hW1, zeroV_rep f (.slice a nx c, .slice e nd k0) n]; exact World.alloc_heap_new _ _
 have B1 : Below w.heap.size w W1 := by rw [hW1]; exact (Below.refl _ _).alloc (Nat.le_refl _) _
 have hb1 := (B1.block g0 hlt0).trans HB0.out
 have st0 : (repC f (.slice a nx c, .slice e nd k0) n 0).take 0 ++ repP f (.slice a nx c, .slice e nd k0) m ++ (repC f (.slice a nx c, .slice e nd k0) n 0).drop (0 + (repP f (.slice a nx c, .slice e nd k0) m).length) = repC f (.slice a nx c, .slice e nd k0) n m := by
  have h := repC_step (f := f) (p := (.slice a nx c, .slice e nd k0)) (n := n) (k := 0) (m := m) (by omega)
  rw [repP_len]; simpa using h
 go_wp2_with (refine copy3_list rfl (.tmp 31) (.tmp 32) 23 23 Tryz.underlying23 rfl w.heap.size 0 n n ⟨g0, 0, none⟩ 1 1 m rfl rfl _ _ (repP f (.slice a nx c, .slice e nd k0) m) (by rw [← hW1]; exact hz) hm (repP_len _ _ _) (by rw [← hW1]; exact rep_src hm1 hb1) (by rw [repC_len (by omega), repP_len]; omega) repP_cell ?_; rw [← hW1]; intro w2 hg2 hw9; have hw2 := Lib.hid hw9; clear hw9)
 rw [st0] at hg2
 have B2 := Lib.hid (show Below w.heap.size w w2 by rw [hw2.out]; exact below_setRow B1 (Nat.le_refl _) _)
 clear hw2 B1 hb1 hz hW1 st0 HMk HM1
 go_wp2_with fail
 go_loopw [8] (fun nv wr => ∃ k : Nat, k ≤ n ∧ (0 < n → 0 < k) ∧ nv = .int .i64 k ∧ Hid (wr.heap[w.heap.size]? = some (.cells (repC f (.slice a nx c, .slice e nd k0) n k).toArray 34 (0, 0))) ∧ Hid (Below w.heap.size w wr)) (fun nv _ => n - (intOf nv).toNat)
 case atStart => exact ⟨m, hmn, hm0, rfl, hg2, B2⟩
 case round =>
  obtain ⟨k, hk, hk0, rfl, HK, HBk⟩ := hrel
  by_cases hlt : k < n
  ·have hkp : 0 < k := hk0 (by omega)
   obtain ⟨m2, hm2⟩ : ∃ m2, Nat.min k (n - k) = m2 := ⟨_, rfl⟩
   have h1 : m2 ≤ k := by rw [← hm2]; exact Nat.min_le_left _ _
   have h2 : m2 ≤ n - k := by rw [← hm2]; exact Nat.min_le_right _ _
   have h3 : 0 < m2 := by rw [← hm2]; exact Nat.lt_min.2 ⟨hkp, by omega⟩
   have st1 : (repC f (.slice a nx c, .slice e nd k0) n k).take (k * 3) ++ repP f (.slice a nx c, .slice e nd k0) m2 ++ (repC f (.slice a nx c, .slice e nd k0) n k).drop (k * 3 + (repP f (.slice a nx c, .slice e nd k0) m2).length) = repC f (.slice a nx c, .slice e nd k0) n (k + m2) := by
    have h := repC_step (f := f) (p := (.slice a nx c, .slice e nd k0)) (n := n) (k := k) (m := m2) (by omega)
    rw [repP_len]; exact h
   have hnk : ¬ n = k := by omega
   have hwr : IntKind.i64.wrap ((k : Int) + (m2 : Int)) = (k : Int) + (m2 : Int) := by rw [IntKind.wrap_i64]; omega
   have hsum : (k : Int) + (m2 : Int) ≤ 24 := by omega
   go_wp2_with fail
   go_region_held3 (fun w' => w'.os = wr.os) (first | rfl | exact hos3 | fail)
    (first
     | (refine step_copy3 rfl (.tmp 41) (.tmp 44) 23 23 Tryz.underlying23 rfl w.heap.size (k * 3) (n - k) (n - k) ⟨w.heap.size, 0, none⟩ k n m2 (by simp [Act.eval, Act.put, hnk]) (by simp [Act.eval, Act.put]) _ _ (repP f (.slice a nx c, .slice e nd k0) m2) (by first | exact HK.out | fail) hm2 (repP_len _ _ _) (by first | exact rep_src2 h1 HK.out | fail) (by rw [repC_len (by omega), repP_len]; omega) repP_cell ?_; intro w3 hg3 hw9; have hw3 := Lib.hid hw9; clear hw9; have hos3 : w3.os = wr.os := (by rw [hw3.out]; rfl)))
   all_goals rw [st1] at hg3
   all_goals have B3 := Lib.hid (show Below w.heap.size w w3 by rw [hw3.out]; exact below_setRow (show Below w.heap.size w wr.drew from ⟨HBk.out.os, HBk.out.tape, HBk.out.output, HBk.out.size, HBk.out.block⟩) (Nat.le_refl _) _)
   all_goals clear hw3 st1
   all_goals go_wp2_with fail
   all_goals exact ⟨⟨k + m2, by omega, fun _ => by omega, by go_num, hg3, B3⟩, by simp [intOf]; omega⟩
  ·obtain rfl : k = n := by omega
   go_wp2
   go_ret
   exact ⟨_, rfl, repC_rats hn HK.out (HR.out.below HBk.out), HBk.out⟩
end Go.Proofs.YtlepgkkpopjgoaaGreat
