/- Rows of integers that are filled place by place: what they hold, a store into one, a new one. -/
import Derived.Test.YtofmpfcbdemcnaaDoorInts
import Derived.Test.YtofmpfcbdemcnaaDoorNum
import Derived.Laws.OwnMore
namespace Go.Proofs.YtofmpfcbdemcnaaDoor
open Go.RowKit

/-- n places, those before k filled -/
def fillU (n k : Nat) (F G : Nat → Int) : List Int := (List.range n).map (fun i => if i < k then F i else G i)
/-- n places, those from k on filled -/
def fillD (n k : Nat) (F G : Nat → Int) : List Int := (List.range n).map (fun i => if k ≤ i then F i else G i)
def listF (n : Nat) (F : Nat → Int) : List Int := (List.range n).map F
theorem listF_length (n : Nat) (F : Nat → Int) : (listF n F).length = n := by simp [listF]
theorem listF_get (n : Nat) (F : Nat → Int) (i : Nat) (h : i < (listF n F).length) : (listF n F)[i]'h = F i := by simp [listF]
theorem listF_congr {n : Nat} {F G : Nat → Int} (h : ∀ i, i < n → F i = G i) : listF n F = listF n G := List.map_congr_left (fun i hi => h i (List.mem_range.1 hi))
theorem listF_take {n k : Nat} {F : Nat → Int} (h : k ≤ n) : (listF n F).take k = listF k F := by
  unfold listF; rw [← List.map_take, List.take_range, Nat.min_eq_left h]
theorem listF_succ (n : Nat) (F : Nat → Int) : listF (n + 1) F = listF n F ++ [F n] := by simp [listF, List.range_succ]
theorem listF_of (l : List Int) : listF l.length (fun i => l.getD i 0) = l := by
  apply List.ext_getElem (by rw [listF_length])
  intro i h1 h2
  rw [listF_get]
  simp [List.getD, h2]
theorem fillU_length (n k : Nat) (F G : Nat → Int) : (fillU n k F G).length = n := by simp [fillU]
theorem fillU_get (n k : Nat) (F G : Nat → Int) (i : Nat) (h : i < (fillU n k F G).length) : (fillU n k F G)[i]'h = if i < k then F i else G i := by simp [fillU]
theorem fillU_zero (n : Nat) (F G : Nat → Int) : fillU n 0 F G = listF n G := by simp [fillU, listF]
theorem fillU_full (n : Nat) (F G : Nat → Int) : fillU n n F G = listF n F := listF_congr (fun i hi => by rw [if_pos hi])
theorem fillU_set {n k : Nat} {F G : Nat → Int} (h : k < n) : (fillU n k F G).set k (F k) = fillU n (k + 1) F G := by
  apply List.ext_getElem (by simp [fillU_length])
  intro i h1 h2
  rw [List.getElem_set, fillU_get, fillU_get]
  by_cases e : k = i
  · subst e; rw [if_pos rfl, if_pos (by omega)]
  · rw [if_neg e]
    by_cases h3 : i < k
    · rw [if_pos h3, if_pos (by omega)]
    · rw [if_neg h3, if_neg (by omega)]
theorem fillD_length (n k : Nat) (F G : Nat → Int) : (fillD n k F G).length = n := by simp [fillD]
theorem fillD_get (n k : Nat) (F G : Nat → Int) (i : Nat) (h : i < (fillD n k F G).length) : (fillD n k F G)[i]'h = if k ≤ i then F i else G i := by simp [fillD]
theorem fillD_none (n : Nat) (F G : Nat → Int) : fillD n n F G = listF n G := listF_congr (fun i hi => by rw [if_neg (by omega)])
theorem fillD_full (n : Nat) (F G : Nat → Int) : fillD n 0 F G = listF n F := listF_congr (fun i hi => by rw [if_pos (by omega)])
theorem fillD_set {n k : Nat} {F G : Nat → Int} (h : k < n) : (fillD n (k + 1) F G).set k (F k) = fillD n k F G := by
  apply List.ext_getElem (by simp [fillD_length])
  intro i h1 h2
  rw [List.getElem_set, fillD_get, fillD_get]
  by_cases e : k = i
  · subst e; rw [if_pos rfl, if_pos (by omega)]
  · rw [if_neg e]
    by_cases h3 : k ≤ i
    · rw [if_pos (by omega), if_pos h3]
    · rw [if_neg (by omega), if_neg h3]
theorem set_same {l : List Int} {k : Nat} {x : Int} (h : ∀ hk : k < l.length, l[k]'hk = x) : l.set k x = l := by
  apply List.ext_getElem (by simp)
  intro i h1 h2
  rw [List.getElem_set]
  by_cases e : k = i
  · subst e; rw [if_pos rfl, h]
  · rw [if_neg e]

/-- the limbs of a number, as integers -/
def limI (x : Nat) : List Int := listF (nlen x) (fun i => (dig x i : Int))
theorem limI_length (x : Nat) : (limI x).length = nlen x := listF_length _ _
theorem limI_get (x i : Nat) (h : i < (limI x).length) : (limI x)[i]'h = (dig x i : Int) := listF_get _ _ _ _
theorem limI_zero : limI 0 = [] := by unfold limI; rw [nlen_zero]; rfl
theorem limI_ne {x : Nat} (h : 0 < x) : limI x ≠ [] := fun e => by
  have := congrArg List.length e
  rw [limI_length] at this
  have := (nlen_pos_iff x).2 h
  simp at *
  omega

theorem setCell_grown (w : World) (g j : Nat) (x : Value) : w.grownBy (w.setCell ⟨g, j, none⟩ x) (some g) :=
  ⟨rfl, rfl, rfl, by simp [World.setCell], fun k _ hk => Below.heap_setCell _ _ _ _ (fun e => hk (by rw [e]))⟩

section
variable {w : World} {B g n c : Nat} {l : List Int}
theorem OwnI.len {a : Option Addr} (h : OwnI w B (.slice a n c) l) : l.length = n := by
  rcases h.2 with ⟨hv, hn⟩ | ⟨g, cap, cur, hv, _⟩
  · injection hv with e1 e2 e3
    have := h.1
    have : l = [] := by simpa using hn
    subst this; exact e2.symm
  · injection hv with e1 e2 e3; exact e2.symm
theorem OwnI.cell (h : OwnI w B (.slice (some ⟨g, 0, none⟩) n c) l) (k : Nat) (hk : k < l.length) : w.cell? ⟨g, k, none⟩ = some (.int .i64 (l[k]'hk)) := by
  have e := h.len
  subst e
  have := World.ownsRow.cellAt (w := w) (base := B) (e := 3) (size := 1) (g := g) (n := l.length) (cap := c) (xs := l.map iV) h k (by omega)
  rw [this]; simp [hk, iV]
theorem OwnI.frozen (h : OwnI w B (.slice (some ⟨g, 0, none⟩) n c) l) (k : Nat) : w.frozen? ⟨g, k, none⟩ = false := by
  have e := h.len
  subst e
  exact World.ownsRow.frozenAt h k
theorem OwnI.set (h : OwnI w B (.slice (some ⟨g, 0, none⟩) n c) l) (k : Nat) (x : Int) : OwnI (w.setCell ⟨g, k, none⟩ (.int .i64 x)) B (.slice (some ⟨g, 0, none⟩) n c) (l.set k x) := by
  have e := h.len
  subst e
  have := (World.ownsRow.stored h k (.int .i64 x)).1
  unfold OwnI
  rw [List.length_set, List.map_set]
  exact this
theorem OwnI.ge (h : OwnI w B (.slice (some ⟨g, 0, none⟩) n c) l) (hn : 0 < n) : B ≤ g ∧ g < w.heap.size := by
  exact World.ownsRow.lt h g rfl
theorem OwnI.alloc {v : Value} (h : OwnI w B v l) (o : Obj) : OwnI (w.alloc o) B v l := World.ownsRow.alloc h o
theorem OwnI.cap_le {a : Option Addr} (h : OwnI w B (.slice a n c) l) : n ≤ c ∧ c ≤ maxLen := by
  rcases h.2 with ⟨hv, hn⟩ | ⟨g, cap, cur, hv, _, _, h1, h2, _⟩
  · injection hv with e1 e2 e3; subst e2 e3; exact ⟨Nat.le_refl _, by unfold maxLen; omega⟩
  · injection hv with e1 e2 e3; subst e2 e3; exact ⟨h1, h2⟩
end
/-- where a row has an element it has an address -/
theorem OwnI.form {w : World} {B : Nat} {v : Value} {l : List Int} (h : OwnI w B v l) : (v = .slice none 0 0 ∧ l = []) ∨ ∃ g c, v = .slice (some ⟨g, 0, none⟩) l.length c ∧ B ≤ g ∧ g < w.heap.size := by
  rcases h.2 with ⟨hv, hn⟩ | ⟨g, cap, cur, hv, hB, hg, _⟩
  · exact .inl ⟨hv, by simpa using hn⟩
  · exact .inr ⟨g, cap, hv, hB, (Array.getElem?_eq_some_iff.1 hg).1⟩

/-- n zeros in a block of their own -/
def zeroObj (n : Nat) : Obj := .cells (madeCells #[.int .i64 0] n) 3
theorem make_intsT (T : TypeId) (hT : Tryd.prog.underlying T = some (.slice 3)) (n : Nat) (hn : n ≤ 1099511627776) (w : World) : (Instr.makeSlice T (.int .i64 (n : Int)) (.int .i64 (n : Int))).run Tryd.prog w = .ok (.slice (some ⟨w.heap.size, 0, none⟩) n n) (w.alloc (zeroObj n)) := by
  obtain ⟨i0, hi, hz0, hz1, hz2⟩ := info_parts info_int
  have := run_make (P := Tryd.prog) w T 3 i0 (.int .i64 0) hT hi hz0 .i64 .i64 n n (by omega) (Int.le_refl _) (by rw [hz2]; omega) (by omega)
  rw [this, hz1]
  simp [zeroObj, Value.cells]
theorem make_ints (n : Nat) (hn : n ≤ 1099511627776) (w : World) : (Instr.makeSlice 23 (.int .i64 (n : Int)) (.int .i64 (n : Int))).run Tryd.prog w = .ok (.slice (some ⟨w.heap.size, 0, none⟩) n n) (w.alloc (zeroObj n)) := make_intsT _ Tryd.underlying23 n hn w
theorem make_limbs (n : Nat) (hn : n ≤ 1099511627776) (w : World) : (Instr.makeSlice 53 (.int .i64 (n : Int)) (.int .i64 (n : Int))).run Tryd.prog w = .ok (.slice (some ⟨w.heap.size, 0, none⟩) n n) (w.alloc (zeroObj n)) := make_intsT _ Tryd.underlying53 n hn w
theorem zeroObj_own (w : World) (B n : Nat) (hB : B ≤ w.heap.size) (hn : n ≤ 1099511627776) : OwnI (w.alloc (zeroObj n)) B (.slice (some ⟨w.heap.size, 0, none⟩) n n) (listF n (fun _ => 0)) := by
  have h := World.ownsRow_lit (base := B) (e := 3) (size := 1) w (madeCells #[.int .i64 0] n) n hB (by unfold maxLen; omega) (by rw [size_madeCells]; omega)
  unfold OwnI
  rw [listF_length]
  have e : (listF n (fun _ => 0)).map iV = (madeCells #[.int .i64 0] n).toList := by
    rw [toList_madeCells_one]
    simp [listF, iV, Function.comp_def, List.map_const']
  rw [e]
  exact h

set_option maxHeartbeats 400000 in
theorem to_ints (v : Value) (zs : List Int) (w : World) (h : RowOf iV w v zs) (hn : zs.length ≤ 1099511627776) :
    Calls Tryd.prog 18 #[v] w fun e w' => ∃ v', e = .returned v' ∧ OwnI w' w.heap.size v' zs ∧ Below w.heap.size w w' := by
  have H := Lib.hid h
  obtain ⟨a, cap, rfl, hc, hm, hr⟩ := h
  unfold maxLen at hm
  have R := Lib.hid hr
  clear hr
  obtain ⟨n, hnn⟩ : ∃ n, zs.length = n := ⟨_, rfl⟩
  rw [hnn] at hc hn H ⊢
  have HN := Lib.hid hnn
  clear hnn
  have hmk := make_ints n hn
  go_enter Tryd.func18, Tryd.ntmps18
  go_wp2
  clear hmk
  have HO := Lib.hid (zeroObj_own w w.heap.size n (Nat.le_refl _) hn)
  have HB := Lib.hid ((Below.refl w.heap.size w).alloc (Nat.le_refl _) (zeroObj n))
  generalize w.alloc (zeroObj n) = W1 at HO HB ⊢
  obtain ⟨g, hg⟩ : ∃ g, w.heap.size = g := ⟨_, rfl⟩
  rw [hg] at HO HB ⊢
  have HG := Lib.hid hg
  clear hg
  go_loopw [4] (fun iv wr => ∃ k : Nat, k ≤ n ∧ iv = .int .i64 k ∧ Hid (OwnI wr g (.slice (some ⟨g, 0, none⟩) n n) (fillU n k (fun i => zs.getD i 0) (fun _ => 0))) ∧ Hid (Below g w wr)) (fun iv _ => n - (intOf iv).toNat)
  case atStart => exact ⟨0, Nat.zero_le _, rfl, by rw [fillU_zero]; exact HO, HB⟩
  case round =>
    obtain ⟨k, hk, rfl, HK, HBk⟩ := hrel
    by_cases hlt : k < n
    · obtain ⟨b, o, rfl, hx⟩ := R.out k (by rw [HN.out]; exact hlt)
      have hxb := World.block_lt_of_cell? w _ hx
      have hx1 : wr.cell? ⟨b, o + k, none⟩ = some (iV (zs[k]'(by rw [HN.out]; exact hlt))) := (HBk.out.cell (p := ⟨b, o + k, none⟩) (by rw [← HG.out]; simpa using hxb)).trans hx
      obtain ⟨s, hs⟩ : ∃ s, zs[k]'(by rw [HN.out]; exact hlt) = s := ⟨_, rfl⟩
      rw [hs] at hx1
      unfold iV at hx1
      have hsF : Hid ((fun i => zs.getD i 0) k = s) := by
        unfold Hid
        show zs.getD k 0 = s
        rw [← hs]; simp [List.getD, HN.out, hlt]
      have hcl := HK.out.cell k (by rw [fillU_length]; exact hlt)
      have hfz := HK.out.frozen k
      have HS := Lib.hid (HK.out.set k s)
      have HB2 := Lib.hid (HBk.out.setCell (p := ⟨g, k, none⟩) (Nat.le_refl _) (.int .i64 s))
      clear hx hxb hs R
      go_wp2
      go_roundw
      case rel => exact ⟨k + 1, by omega, by go_num, by have h := HS.out; rw [← hsF.out, fillU_set hlt] at h; rw [← hsF.out]; exact h, HB2⟩
      case measure => simp [intOf]; omega
    · obtain rfl : k = n := by omega
      go_wp2
      go_ret
      refine ⟨_, rfl, ?_, by rw [HG.out]; exact HBk.out⟩
      rw [HG.out]
      have h := HK.out
      rw [fillU_full] at h
      have e : listF k (fun i => zs.getD i 0) = zs := by have := listF_of zs; rw [HN.out] at this; exact this
      rw [e] at h
      exact h

end Go.Proofs.YtofmpfcbdemcnaaDoor
