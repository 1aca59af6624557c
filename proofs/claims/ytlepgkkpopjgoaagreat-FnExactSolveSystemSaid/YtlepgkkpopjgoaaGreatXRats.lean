/- Vectors of fractions in memory: as data a list of fractions; in memory one block of three cells an element, and two rows of limbs for each. -/
import Derived.Test.YtlepgkkpopjgoaaGreatXRat
import Derived.Laws.OwnMore
import Derived.Laws.MakeOwn
import Derived.Deep.Onto
namespace Go.Proofs.YtlepgkkpopjgoaaGreat
open Go.RowKit Go.WideShapes Go.ChangeShapes
structure Fr where
 neg : Bool
 mag : List Int
 den : List Int
def Fr.zero : Fr := ⟨false, [], []⟩
def flat : List Fr → List (Value × Value) → List Value
 | x :: L, p :: xs => .bool x.neg :: p.1 :: p.2 :: flat L xs
 | _, _ => []
theorem flat_len : ∀ (L : List Fr) (xs : List (Value × Value)), xs.length = L.length → (flat L xs).length = L.length * 3
 | [], [], _ => rfl
 | x :: L, p :: xs, h => by
  have := flat_len L xs (by simpa using h)
  simp only [flat, List.length_cons, this]; omega
theorem flat_snoc : ∀ (L : List Fr) (xs : List (Value × Value)) (f : Fr) (p : Value × Value), xs.length = L.length → flat (L ++ [f]) (xs ++ [p]) = flat L xs ++ [.bool f.neg, p.1, p.2]
 | [], [], _, _, _ => rfl
 | x :: L, q :: xs, f, p, h => by
  simp only [List.cons_append, flat, flat_snoc L xs f p (by simpa using h)]
theorem flat_at : ∀ (L : List Fr) (xs : List (Value × Value)) (i : Nat) (h : i < L.length) (h' : i < xs.length),
  (flat L xs)[i * 3]? = some (.bool (L[i]'h).neg) ∧ (flat L xs)[i * 3 + 1]? = some (xs[i]'h').1 ∧ (flat L xs)[i * 3 + 2]? = some (xs[i]'h').2
 | x :: L, p :: xs, 0, _, _ => by simp [flat]
 | x :: L, p :: xs, i + 1, h, h' => by
  obtain ⟨h1, h2, h3⟩ := flat_at L xs i (by simpa using h) (by simpa using h')
  refine ⟨?_, ?_, ?_⟩
  ·rw [show (i + 1) * 3 = i * 3 + 1 + 1 + 1 by omega]; simpa [flat] using h1
  ·rw [show (i + 1) * 3 + 1 = (i * 3 + 1) + 1 + 1 + 1 by omega]; simpa [flat] using h2
  ·rw [show (i + 1) * 3 + 2 = (i * 3 + 2) + 1 + 1 + 1 by omega]; simpa [flat] using h3
 | [], _, _, h, _ => by simp at h
 | _ :: _, [], _, _, h => by simp at h
theorem flat_set0 : ∀ (L : List Fr) (xs : List (Value × Value)) (i : Nat) (b : Bool) (h : i < L.length), xs.length = L.length →
  (flat L xs).set (i * 3) (.bool b) = flat (L.set i ⟨b, (L[i]'h).mag, (L[i]'h).den⟩) xs
 | x :: L, p :: xs, 0, _, _, _ => by simp [flat]
 | x :: L, p :: xs, i + 1, b, h, hl => by
  have h1 := flat_set0 L xs i b (by simpa using h) (by simpa using hl)
  rw [show (i + 1) * 3 = i * 3 + 1 + 1 + 1 by omega]
  simp [flat, h1]
 | [], _, _, _, h, _ => by simp at h
 | _ :: _, [], _, _, _, h => by simp at h
theorem flat_set3 : ∀ (L : List Fr) (xs : List (Value × Value)) (i : Nat) (f : Fr) (p : Value × Value), i < L.length → xs.length = L.length →
  (((flat L xs).set (i * 3) (.bool f.neg)).set (i * 3 + 1) p.1).set (i * 3 + 2) p.2 = flat (L.set i f) (xs.set i p)
 | x :: L, q :: xs, 0, _, _, _, _ => by simp [flat]
 | x :: L, q :: xs, i + 1, f, p, h, hl => by
  have h1 := flat_set3 L xs i f p (by simpa using h) (by simpa using hl)
  rw [show (i + 1) * 3 = i * 3 + 1 + 1 + 1 by omega, show i * 3 + 1 + 1 + 1 + 1 = (i * 3 + 1) + 1 + 1 + 1 by omega, show i * 3 + 1 + 1 + 1 + 2 = (i * 3 + 2) + 1 + 1 + 1 by omega]
  simp [flat, h1]
 | [], _, _, _, _, h, _ => by simp at h
 | _ :: _, [], _, _, _, _, h => by simp at h
theorem flat_neg : ∀ (L L' : List Fr) (xs : List (Value × Value)), L.map (·.neg) = L'.map (·.neg) → flat L xs = flat L' xs
 | [], [], _, _ => rfl
 | x :: L, y :: L', [], _ => rfl
 | x :: L, y :: L', p :: xs, h => by
  simp only [List.map_cons, List.cons.injEq] at h
  simp only [flat, h.1, flat_neg L L' xs h.2]
 | [], _ :: _, _, h => by simp at h
 | _ :: _, [], _, h => by simp at h
structure Kept (S : Nat → Prop) (w w' : World) : Prop where
 os : w'.os = w.os
 tape : w'.tape = w.tape
 output : w'.output = w.output
 size : w.heap.size ≤ w'.heap.size
 block : ∀ k, k < w.heap.size → ¬ S k → w'.heap[k]? = w.heap[k]?
theorem Kept.refl (S : Nat → Prop) (w : World) : Kept S w w := ⟨rfl, rfl, rfl, Nat.le_refl _, fun _ _ _ => rfl⟩
theorem Kept.trans {S : Nat → Prop} {a b c : World} (h : Kept S a b) (k : Kept S b c) : Kept S a c :=
 ⟨k.os.trans h.os, k.tape.trans h.tape, k.output.trans h.output, Nat.le_trans h.size k.size, fun i hi hn => (k.block i (Nat.lt_of_lt_of_le hi h.size) hn).trans (h.block i hi hn)⟩
theorem Kept.mono {S T : Nat → Prop} {a b : World} (h : Kept S a b) (hs : ∀ k, S k → T k) : Kept T a b :=
 ⟨h.os, h.tape, h.output, h.size, fun i hi hn => h.block i hi (fun hk => hn (hs i hk))⟩
theorem Kept.of_grown {w w' : World} {row : Option Nat} (h : w.grownBy w' row) : Kept (fun k => row = some k) w w' :=
 ⟨h.os, h.tape, h.output, h.size, fun i hi hn => h.block i hi (fun e => hn e.symm)⟩
theorem Kept.of_below {S : Nat → Prop} {w w' : World} (h : Below w.heap.size w w') : Kept S w w' := ⟨h.os, h.tape, h.output, h.size, fun i hi _ => h.block i hi⟩
theorem OwnI.kept {w w' : World} {S : Nat → Prop} {B : Nat} {v : Value} {l : List Int} (h : OwnI w B v l) (hk : Kept S w w') (hne : ∀ g, v.ownBlock = some g → ¬ S g) : OwnI w' B v l := by
 obtain ⟨hl, ho⟩ := h
 rcases ho with ho | ⟨g', cap, cur, rfl, hB, hg, hr⟩
 ·exact ⟨hl, .inl ho⟩
 ·exact ⟨hl, .inr ⟨g', cap, cur, rfl, hB, (hk.block g' ((Array.getElem?_eq_some_iff.1 hg).1) (hne g' rfl)).trans hg, hr⟩⟩
theorem rowV_kept {w w' : World} {S : Nat → Prop} {B : Nat} {e : TypeId} {n : Nat} {v : Value} {xs : List Value} (h : w.ownsRow B e 3 v n xs) (hk : Kept S w w') (hne : ∀ g, v.ownBlock = some g → ¬ S g) : w'.ownsRow B e 3 v n xs := by
 obtain ⟨hl, ho⟩ := h
 rcases ho with ho | ⟨g', cap, cur, rfl, hB, hg, hr⟩
 ·exact ⟨hl, .inl ho⟩
 ·exact ⟨hl, .inr ⟨g', cap, cur, rfl, hB, (hk.block g' ((Array.getElem?_eq_some_iff.1 hg).1) (hne g' rfl)).trans hg, hr⟩⟩
theorem OwnR.kept {w w' : World} {S : Nat → Prop} {B : Nat} {v d : Value} {zs ds : List Int} (h : OwnR w B v zs d ds) (hk : Kept S w w') (hne : ∀ g, (v.ownBlock = some g ∨ d.ownBlock = some g) → ¬ S g) : OwnR w' B v zs d ds :=
 ⟨h.1.kept hk (fun g e => hne g (.inl e)), h.2.1.kept hk (fun g e => hne g (.inr e)), h.2.2⟩
structure OwnV (w : World) (B : Nat) (v : Value) (L : List Fr) (xs : List (Value × Value)) : Prop where
 len : xs.length = L.length
 row : w.ownsRow B 34 3 v L.length (flat L xs)
 each : ∀ i (h : i < L.length) (h' : i < xs.length), OwnR w B (xs[i]'h').1 (L[i]'h).mag (xs[i]'h').2 (L[i]'h).den
 apart : ∀ i j (hi : i < xs.length) (hj : j < xs.length), i ≠ j → ∀ g g', ((xs[i]'hi).1.ownBlock = some g ∨ (xs[i]'hi).2.ownBlock = some g) → ((xs[j]'hj).1.ownBlock = some g' ∨ (xs[j]'hj).2.ownBlock = some g') → g ≠ g'
def OnV (v : Value) (xs : List (Value × Value)) (k : Nat) : Prop := v.ownBlock = some k ∨ ∃ p ∈ xs, p.1.ownBlock = some k ∨ p.2.ownBlock = some k
theorem OwnV.nil (w : World) (B : Nat) : OwnV w B (.slice none 0 0) [] [] :=
 ⟨rfl, World.ownsRow_nil _ _ _ _, fun i h => by simp at h, fun i _ h => by simp at h⟩
theorem OwnV.lit0 (w : World) : OwnV (w.alloc (.cells #[] 34)) w.heap.size (.slice (some ⟨w.heap.size, 0, none⟩) 0 0) [] [] :=
 ⟨rfl, World.ownsRow_lit (e := 34) (size := 3) w #[] 0 (Nat.le_refl _) (by unfold maxLen; omega) (by simp), fun i h => by simp at h, fun i _ h => by simp at h⟩
theorem OwnV.kept {w w' : World} {S : Nat → Prop} {B : Nat} {v : Value} {L : List Fr} {xs : List (Value × Value)} (h : OwnV w B v L xs) (hk : Kept S w w') (hne : ∀ k, OnV v xs k → ¬ S k) : OwnV w' B v L xs :=
 ⟨h.len, rowV_kept h.row hk (fun g e => hne g (.inl e)), fun i hi hi' => (h.each i hi hi').kept hk (fun g e => hne g (.inr ⟨_, List.getElem_mem hi', e⟩)), h.apart⟩
theorem OwnV.below {w w' : World} {B : Nat} {v : Value} {L : List Fr} {xs : List (Value × Value)} (h : OwnV w B v L xs) (hb : Below w.heap.size w w') : OwnV w' B v L xs :=
 h.kept (S := fun _ => False) (Kept.of_below hb) (fun _ _ h => h)
theorem OwnV.alloc {w : World} {B : Nat} {v : Value} {L : List Fr} {xs : List (Value × Value)} (h : OwnV w B v L xs) (o : Obj) : OwnV (w.alloc o) B v L xs :=
 ⟨h.len, h.row.alloc o, fun i hi hi' => (h.each i hi hi').alloc o, h.apart⟩
theorem OwnV.drew {w : World} {B : Nat} {v : Value} {L : List Fr} {xs : List (Value × Value)} (h : OwnV w B v L xs) : OwnV w.drew B v L xs := ⟨h.len, h.row, h.each, h.apart⟩
theorem OwnV.base {w : World} {B B' : Nat} {v : Value} {L : List Fr} {xs : List (Value × Value)} (h : OwnV w B v L xs) (hB : B' ≤ B) : OwnV w B' v L xs :=
 ⟨h.len, h.row.mono hB, fun i hi hi' => (h.each i hi hi').base hB, h.apart⟩
theorem OwnV.lt {w : World} {B : Nat} {v : Value} {L : List Fr} {xs : List (Value × Value)} (h : OwnV w B v L xs) : ∀ k, OnV v xs k → B ≤ k ∧ k < w.heap.size := by
 rintro k (e | ⟨p, hp, e⟩)
 ·exact h.row.lt k e
 ·obtain ⟨i, hi, rfl⟩ := List.getElem_of_mem hp
  exact (h.each i (by have := h.len; omega) hi).lt k e
theorem OwnV.slice {w : World} {B : Nat} {v : Value} {L : List Fr} {xs : List (Value × Value)} (h : OwnV w B v L xs) : ∃ a c, v = .slice a L.length c := by
 rcases h.row.2 with ⟨hv, hn⟩ | ⟨g, cap, cur, hv, _⟩
 ·exact ⟨none, 0, by rw [hv, hn]⟩
 ·exact ⟨_, _, hv⟩
theorem OwnV.ne_row {w : World} {B : Nat} {v : Value} {L : List Fr} {xs : List (Value × Value)} (h : OwnV w B v L xs) (i : Nat) (hi : i < xs.length) : ∀ g, ((xs[i]'hi).1.ownBlock = some g ∨ (xs[i]'hi).2.ownBlock = some g) → v.ownBlock ≠ some g := by
 have hr := h.each i (by have := h.len; omega) hi
 have key : ∀ (u : Value) (l : List Int) (g : Nat), OwnI w B u l → u.ownBlock = some g → v.ownBlock ≠ some g := by
  intro u l g ho e hv
  rcases ho.2 with ⟨rfl, _⟩ | ⟨g1, cap1, cur1, rfl, _, hg1, _⟩
  ·simp [Value.ownBlock] at e
  ·rcases h.row.2 with ⟨rfl, _⟩ | ⟨g2, cap2, cur2, rfl, _, hg2, _⟩
   ·simp [Value.ownBlock] at hv
   ·have e1 : g1 = g := by simpa [Value.ownBlock] using e
    have e2 : g2 = g := by simpa [Value.ownBlock] using hv
    subst e1 e2
    rw [hg1] at hg2
    injection hg2 with hg2
    injection hg2 with _ h3 _
    exact absurd h3 (by decide)
 intro g e
 rcases e with e | e
 ·exact key _ _ g hr.1 e
 ·exact key _ _ g hr.2.1 e
theorem OwnV.snoc {w w' : World} {B : Nat} {v v' : Value} {L : List Fr} {xs : List (Value × Value)} {f : Fr} {x y : Value} (h : OwnV w B v L xs) (hf : OwnR w B x f.mag y f.den)
  (hne : ∀ i (hi : i < xs.length) g g', ((xs[i]'hi).1.ownBlock = some g ∨ (xs[i]'hi).2.ownBlock = some g) → (x.ownBlock = some g' ∨ y.ownBlock = some g') → g ≠ g')
  (hnr : ∀ g, x.ownBlock = some g ∨ y.ownBlock = some g → v.ownBlock ≠ some g)
  (hg : w.grownBy w' v.ownBlock) (hr : w'.ownsRow B 34 3 v' (L.length + 1) (flat L xs ++ [.bool f.neg, x, y])) : OwnV w' B v' (L ++ [f]) (xs ++ [(x, y)]) := by
 have hl := h.len
 refine ⟨by simp [h.len], ?_, ?_, ?_⟩
 ·rw [flat_snoc L xs f (x, y) h.len, List.length_append]; exact hr
 ·intro i hi hi'
  by_cases hlt : i < L.length
  ·have hlt' : i < xs.length := by omega
   simp only [List.getElem_append_left hlt, List.getElem_append_left hlt']
   exact (h.each i hlt hlt').kept (Kept.of_grown hg) (fun g e => h.ne_row i hlt' g e)
  ·have e1 : i = L.length := by simp at hi; omega
   subst e1
   have e2 : (xs ++ [(x, y)])[L.length]'hi' = (x, y) := by rw [List.getElem_append_right (by omega)]; simp [hl]
   have e3 : (L ++ [f])[L.length]'hi = f := by rw [List.getElem_append_right (by omega)]; simp
   rw [e2, e3]
   exact hf.kept (Kept.of_grown hg) (fun g e => hnr g e)
 ·intro i j hi hj hij g g' e1 e2
  simp only [List.length_append, List.length_singleton] at hi hj
  by_cases h1 : i < xs.length
  ·by_cases h2 : j < xs.length
   ·simp only [List.getElem_append_left h1] at e1
    simp only [List.getElem_append_left h2] at e2
    exact h.apart i j h1 h2 hij g g' e1 e2
   ·have ej : j = xs.length := by omega
    subst ej
    simp only [List.getElem_append_left h1] at e1
    simp at e2
    exact hne i h1 g g' e1 e2
  ·have ei : i = xs.length := by omega
   subst ei
   have h2 : j < xs.length := by omega
   simp at e1
   simp only [List.getElem_append_left h2] at e2
   exact (hne j h2 g' g e2 e1).symm
def RatsAt (w : World) (v : Value) (L : List Fr) : Prop :=
 ∃ a cap, v = .slice a L.length cap ∧ L.length ≤ cap ∧ cap ≤ maxLen ∧ ∀ i (h : i < L.length), ∃ b o x y, a = some ⟨b, o, none⟩ ∧ w.cell? ⟨b, o + i * 3, none⟩ = some (.bool (L[i]'h).neg) ∧
  w.cell? ⟨b, o + i * 3 + 1, none⟩ = some x ∧ w.cell? ⟨b, o + i * 3 + 2, none⟩ = some y ∧ RowR w x (L[i]'h).mag y (L[i]'h).den
theorem RatsAt.below {w w' : World} {v : Value} {L : List Fr} (h : RatsAt w v L) (hb : Below w.heap.size w w') : RatsAt w' v L := by
 obtain ⟨a, cap, rfl, h1, h2, h3⟩ := h
 refine ⟨a, cap, rfl, h1, h2, fun i hi => ?_⟩
 obtain ⟨b, o, x, y, rfl, k0, k1, k2, hr⟩ := h3 i hi
 exact ⟨b, o, x, y, rfl, (hb.cell (World.block_lt_of_cell? w _ k0)).trans k0, (hb.cell (World.block_lt_of_cell? w _ k1)).trans k1, (hb.cell (World.block_lt_of_cell? w _ k2)).trans k2, hr.below hb⟩
theorem OwnV.rats {w : World} {B : Nat} {v : Value} {L : List Fr} {xs : List (Value × Value)} (h : OwnV w B v L xs) : RatsAt w v L := by
 have hl := h.len
 rcases h.row.2 with ⟨rfl, hn⟩ | ⟨g, cap, cur, rfl, hB, hg, h1, h2, h3, h4⟩
 ·exact ⟨none, 0, by rw [hn], by omega, by unfold maxLen; omega, fun i hi => by omega⟩
 ·refine ⟨_, cap, rfl, h1, h2, fun i hi => ?_⟩
  have hi' : i < xs.length := by omega
  obtain ⟨f0, f1, f2⟩ := flat_at L xs i hi hi'
  have hc := h.row.cellAt
  refine ⟨g, 0, _, _, rfl, ?_, ?_, ?_, (h.each i hi hi').row⟩
  ·rw [Nat.zero_add]; exact (hc _ (by omega)).trans f0
  ·rw [Nat.zero_add]; exact (hc _ (by omega)).trans f1
  ·rw [Nat.zero_add]; exact (hc _ (by omega)).trans f2
theorem info_rat : (Tryz.prog.info? 34).map (fun i => (i.zero, i.size, i.bytes)) = some (some (.agg #[.bool false, .slice none 0 0, .slice none 0 0]), 3, 56) := by kernel_rfl
def zeroV (n : Nat) : Obj := .cells (madeCells #[.bool false, .slice none 0 0, .slice none 0 0] (n * 3)) 34
theorem make_rats (n : Nat) (hn : n ≤ 1099511627776) (w : World) : (Instr.makeSlice 23 (.int .i64 (n : Int)) (.int .i64 (n : Int))).run Tryz.prog w = .ok (.slice (some ⟨w.heap.size, 0, none⟩) n n) (w.alloc (zeroV n)) := by
 obtain ⟨i0, hi, hz0, hz1, hz2⟩ := info_parts info_rat
 have := run_make (P := Tryz.prog) w 23 34 i0 _ Tryz.underlying23 hi hz0 .i64 .i64 n n (by omega) (Int.le_refl _) (by rw [hz2]; omega) (by omega)
 rw [this, hz1]
 simp [zeroV, Value.cells]
theorem made_flat : ∀ n : Nat, (madeCells #[Value.bool false, .slice none 0 0, .slice none 0 0] (n * 3)).toList = flat (List.replicate n Fr.zero) (List.replicate n (.slice none 0 0, .slice none 0 0))
 | 0 => by simp [madeCells, flat]
 | n + 1 => by
  have h := made_flat n
  rw [List.replicate_succ', List.replicate_succ', flat_snoc _ _ _ _ (by simp), ← h]
  have e : (madeCells #[Value.bool false, .slice none 0 0, .slice none 0 0] ((n + 1) * 3)).toList = (madeCells #[Value.bool false, .slice none 0 0, .slice none 0 0] (n * 3)).toList ++ [.bool false, .slice none 0 0, .slice none 0 0] := by
   have e1 : (n * 3) % 3 = 0 := by omega
   have e2 : (n * 3 + 1) % 3 = 1 := by omega
   have e3 : (n * 3 + 1 + 1) % 3 = 2 := by omega
   rw [show (n + 1) * 3 = n * 3 + 1 + 1 + 1 by omega]
   simp only [madeCells, Array.toList_map, Array.toList_range, List.range_succ, List.map_append, List.map_cons, List.map_nil, List.append_assoc]
   simp [e1, e2, e3]
  rw [e]; rfl
theorem zeroV_own (w : World) (B n : Nat) (hB : B ≤ w.heap.size) (hn : n ≤ 1099511627776) : OwnV (w.alloc (zeroV n)) B (.slice (some ⟨w.heap.size, 0, none⟩) n n) (List.replicate n Fr.zero) (List.replicate n (.slice none 0 0, .slice none 0 0)) := by
 have h := World.ownsRow_lit (base := B) (e := 34) (size := 3) w (madeCells #[.bool false, .slice none 0 0, .slice none 0 0] (n * 3)) n hB (by unfold maxLen; omega) (by rw [size_madeCells])
 refine ⟨by simp, ?_, fun i hi hi' => ?_, fun i j hi hj _ g g' e1 _ => ?_⟩
 ·rw [List.length_replicate, ← made_flat]; exact h
 ·simp only [List.getElem_replicate]
  exact ⟨OwnI.nil _ _, OwnI.nil _ _, fun g g' e => by simp [Value.ownBlock] at e⟩
 ·simp [Value.ownBlock] at e1
section
variable {w : World} {B g n c : Nat} {L : List Fr} {xs : List (Value × Value)}
theorem OwnV.count {a : Option Addr} (h : OwnV w B (.slice a n c) L xs) : L.length = n := by
 rcases h.row.2 with ⟨hv, hn⟩ | ⟨g', cap, cur, hv, _⟩
 ·injection hv with e1 e2 e3; omega
 ·injection hv with e1 e2 e3; omega
theorem OwnV.cells (h : OwnV w B (.slice (some ⟨g, 0, none⟩) n c) L xs) (i : Nat) (hi : i < L.length) (hi' : i < xs.length) :
  w.cell? ⟨g, i * 3, none⟩ = some (.bool (L[i]'hi).neg) ∧ w.cell? ⟨g, i * 3 + 1, none⟩ = some (xs[i]'hi').1 ∧ w.cell? ⟨g, i * 3 + 2, none⟩ = some (xs[i]'hi').2 := by
 have e := h.count
 subst e
 obtain ⟨f0, f1, f2⟩ := flat_at L xs i hi hi'
 exact ⟨(h.row.cellAt _ (by omega)).trans f0, (h.row.cellAt _ (by omega)).trans f1, (h.row.cellAt _ (by omega)).trans f2⟩
theorem OwnV.frozen (h : OwnV w B (.slice (some ⟨g, 0, none⟩) n c) L xs) (j : Nat) : w.frozen? ⟨g, j, none⟩ = false := by
 have e := h.count
 subst e
 exact h.row.frozenAt j
theorem kept_set (w : World) (g j : Nat) (u : Value) : Kept (fun k => k = g) w (w.setCell ⟨g, j, none⟩ u) :=
 (Kept.of_grown (setCell_grown w g j u)).mono (fun k e => by simpa using e.symm)
theorem OwnV.set0 (h : OwnV w B (.slice (some ⟨g, 0, none⟩) n c) L xs) (i : Nat) (b : Bool) (hi : i < L.length) : OwnV (w.setCell ⟨g, i * 3, none⟩ (.bool b)) B (.slice (some ⟨g, 0, none⟩) n c) (L.set i ⟨b, (L[i]'hi).mag, (L[i]'hi).den⟩) xs := by
 have e := h.count
 subst e
 have hk := kept_set w g (i * 3) (.bool b)
 refine ⟨by simp [h.len], ?_, fun j hj hj' => ?_, h.apart⟩
 ·have h1 := (h.row.stored (i * 3) (.bool b)).1
  rw [flat_set0 L xs i b hi h.len] at h1
  rw [List.length_set]; exact h1
 ·have hj1 : j < L.length := by simpa using hj
  have hr := (h.each j hj1 hj').kept hk (fun g' e hg => h.ne_row j hj' g' e (by rw [hg]; rfl))
  by_cases hij : i = j
  ·subst hij; simp only [List.getElem_set_self]; exact hr
  ·simp only [List.getElem_set_ne hij]; exact hr
theorem OwnV.set3 (h : OwnV w B (.slice (some ⟨g, 0, none⟩) n c) L xs) (i : Nat) (f : Fr) (x y : Value) (hi : i < L.length) (hf : OwnR w B x f.mag y f.den)
  (hne : ∀ j (hj : j < xs.length), j ≠ i → ∀ a a', ((xs[j]'hj).1.ownBlock = some a ∨ (xs[j]'hj).2.ownBlock = some a) → (x.ownBlock = some a' ∨ y.ownBlock = some a') → a ≠ a') (hnr : ∀ a, x.ownBlock = some a ∨ y.ownBlock = some a → a ≠ g) :
  OwnV (((w.setCell ⟨g, i * 3, none⟩ (.bool f.neg)).setCell ⟨g, i * 3 + 1, none⟩ x).setCell ⟨g, i * 3 + 2, none⟩ y) B (.slice (some ⟨g, 0, none⟩) n c) (L.set i f) (xs.set i (x, y)) := by
 have e := h.count
 subst e
 have hk := ((kept_set w g (i * 3) (.bool f.neg)).trans (kept_set _ g (i * 3 + 1) x)).trans (kept_set _ g (i * 3 + 2) y)
 refine ⟨by simp [h.len], ?_, fun j hj hj' => ?_, fun a b ha hb hab r r' e1 e2 => ?_⟩
 ·have h1 := ((((h.row.stored (i * 3) (.bool f.neg)).1).stored (i * 3 + 1) x).1.stored (i * 3 + 2) y).1
  rw [flat_set3 L xs i f (x, y) hi h.len] at h1
  rw [List.length_set]; exact h1
 ·have hj1 : j < L.length := by simpa using hj
  have hj2 : j < xs.length := by simpa using hj'
  by_cases hij : i = j
  ·subst hij; simp only [List.getElem_set_self]; exact hf.kept hk (fun a e hg => hnr a e hg)
  ·simp only [List.getElem_set_ne hij]
   exact (h.each j hj1 hj2).kept hk (fun g' e hg => h.ne_row j hj2 g' e (by rw [hg]; rfl))
 ·have ha1 : a < xs.length := by simpa using ha
  have hb1 : b < xs.length := by simpa using hb
  by_cases hia : i = a
  ·subst hia
   simp only [List.getElem_set_self] at e1
   simp only [List.getElem_set_ne hab] at e2
   exact (hne b hb1 (Ne.symm hab) r' r e2 e1).symm
  ·simp only [List.getElem_set_ne hia] at e1
   by_cases hib : i = b
   ·subst hib
    simp only [List.getElem_set_self] at e2
    exact hne a ha1 hab r r' e1 e2
   ·simp only [List.getElem_set_ne hib] at e2
    exact h.apart a b ha1 hb1 hab r r' e1 e2
end
theorem OwnV.rerow {w w' : World} {B : Nat} {v : Value} {L : List Fr} {xs : List (Value × Value)} (h : OwnV w B v L xs) (i : Nat) (hi : i < L.length) (hi' : i < xs.length) {z d : List Int}
  (hk : Kept (fun k => (xs[i]'hi').1.ownBlock = some k ∨ (xs[i]'hi').2.ownBlock = some k) w w') (hr : OwnR w' B (xs[i]'hi').1 z (xs[i]'hi').2 d) : OwnV w' B v (L.set i ⟨(L[i]'hi).neg, z, d⟩) xs := by
 refine ⟨by simp [h.len], ?_, fun j hj hj' => ?_, h.apart⟩
 ·rw [List.length_set, flat_neg (L.set i ⟨(L[i]'hi).neg, z, d⟩) L xs (by
   apply List.ext_getElem (by simp)
   intro j hj hj'
   simp only [List.getElem_map, List.getElem_set]
   split <;> simp_all)]
  exact rowV_kept h.row hk (fun g e hs => h.ne_row i hi' g hs e)
 ·have hj1 : j < L.length := by simpa using hj
  by_cases hij : i = j
  ·subst hij; simp only [List.getElem_set_self]; exact hr
  ·simp only [List.getElem_set_ne hij]
   exact (h.each j hj1 hj').kept hk (fun g e hs => h.apart j i hj' hi' (Ne.symm hij) g g e hs rfl)
end Go.Proofs.YtlepgkkpopjgoaaGreat
