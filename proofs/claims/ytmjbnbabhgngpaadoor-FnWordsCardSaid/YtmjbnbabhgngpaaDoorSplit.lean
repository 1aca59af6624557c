/- SplitAny of the program and of the model both cut a string at every byte that occurs in a second one; SplitLines likewise cuts at newlines. -/
import Derived.Test.YtmjbnbabhgngpaaDoorRows1
namespace Go.Proofs.YtmjbnbabhgngpaaDoor
open Go.RowKit

def hasB (by' : ByteArray) (c : UInt8) : Bool := by'.data.toList.contains c
/-- the pieces that are closed before place k, and where the open one begins -/
def cutTo (p : UInt8 → Bool) (s : ByteArray) : Nat → List ByteArray × Nat
  | 0 => ([], 0)
  | k + 1 => if (match s.data[k]? with | some c => p c | none => false) then ((cutTo p s k).1 ++ [s.extract (cutTo p s k).2 k], k + 1) else cutTo p s k
theorem cutTo_yes {p : UInt8 → Bool} {s : ByteArray} {k : Nat} (hk : k < s.size) (h : p (s[k]'hk) = true) : cutTo p s (k + 1) = ((cutTo p s k).1 ++ [s.extract (cutTo p s k).2 k], k + 1) := by
  have : s.data[k]? = some (s[k]'hk) := by simp [ByteArray.getElem_eq_getElem_data]
  simp [cutTo, this, h]
theorem cutTo_no {p : UInt8 → Bool} {s : ByteArray} {k : Nat} (hk : k < s.size) (h : p (s[k]'hk) = false) : cutTo p s (k + 1) = cutTo p s k := by
  have : s.data[k]? = some (s[k]'hk) := by simp [ByteArray.getElem_eq_getElem_data]
  simp [cutTo, this, h]
theorem cutTo_bound (p : UInt8 → Bool) (s : ByteArray) : ∀ k, (cutTo p s k).2 ≤ k ∧ (cutTo p s k).1.length ≤ k
  | 0 => by simp [cutTo]
  | k + 1 => by
    have ih := cutTo_bound p s k
    unfold cutTo
    split <;> split
    all_goals first | omega | (simp only [List.length_append, List.length_singleton]; omega)
def cutAll (p : UInt8 → Bool) (s : ByteArray) : List ByteArray := (cutTo p s s.size).1 ++ [s.extract (cutTo p s s.size).2 s.size]
theorem cutAll_length (p : UInt8 → Bool) (s : ByteArray) : (cutAll p s).length ≤ s.size + 1 := by
  have := cutTo_bound p s s.size
  simp [cutAll]; omega

theorem hasB_yes {by' : ByteArray} {j : Nat} {c : UInt8} (hj : j < by'.size) (h : by'[j]'hj = c) : hasB by' c = true := by
  unfold hasB
  rw [List.contains_iff_mem, ← h]
  have : by'[j]'hj = by'.data[j]'hj := rfl
  rw [this]; simp
theorem hasB_no {by' : ByteArray} {c : UInt8} (h : ∀ t (h : t < by'.size), t < by'.size → by'[t]'h ≠ c) : hasB by' c = false := by
  unfold hasB
  rw [Bool.eq_false_iff]
  intro hc
  rw [List.contains_iff_mem] at hc
  obtain ⟨j, hj, e⟩ := List.getElem_of_mem hc
  have hj' : j < by'.size := by simpa using hj
  exact h j hj' hj' e
theorem hin_succ {by' : ByteArray} {j : Nat} {c d : UInt8} (hj : j < by'.size) (hd : by'[j]'hj = d) (hcd : ¬ c = d) (h : ∀ t (h : t < by'.size), t < j → by'[t]'h ≠ c) : ∀ t (h : t < by'.size), t < j + 1 → by'[t]'h ≠ c := by
  intro t ht htj
  by_cases e : t = j
  · subst e; rw [hd]; exact fun h' => hcd h'.symm
  · exact h t ht (by omega)
theorem ownsRow_drewN {w : World} {B : Nat} {e : TypeId} {size : Nat} {v : Value} {n : Nat} {xs : List Value} (h : w.ownsRow B e size v n xs) (q : Nat) : (w.drewN q).ownsRow B e size v n xs := h
theorem below_drewN' {B : Nat} {a w : World} (h : Below B a w) (q : Nat) : Below B a (w.drewN q) := ⟨h.os, h.tape, h.output, h.size, h.block⟩

theorem info_string : (Tryd.prog.info? 9).map (fun i => (i.zero, i.size, i.bytes)) = some (some (.string ⟨#[]⟩), 1, 16) := by kernel_rfl

/-- 'out = append(out, piece)' on a row of strings of the call's own -/
theorem append_str {ops : Array Oper} {rest : List Oper} {o : Oper} {a : Act} {Q : Exit → Act → World → Prop} {w : World} (hgd : o.guard = none) (s x : Operand)
    (ho : o.op = .call { callee := .builtin .append, args := #[s, x], argTypes := #[29, 29] })
    (B n : Nat) (v : Value) (ss : List ByteArray) (piece : ByteArray) (ad : Addr) (hs : a.eval s = v) (hown : w.ownsRow B 9 1 v n (ss.map .string)) (hx : a.eval x = .slice (some ad) 1 1)
    (hc : ∀ j u, [Value.string piece][j]? = some u → w.cell? (ad.add j) = some u) (hn : n + 1 ≤ 8796093022208) (hB : B ≤ w.heap.size)
    (h : ∀ v' w', w'.ownsRow B 9 1 v' (n + 1) ((ss ++ [piece]).map .string) → w.grownBy w' v.ownBlock → wpList Tryd.prog ops Q rest (a.put o.dst v') w') : wpList Tryd.prog ops Q (o :: rest) a w := by
  obtain ⟨i0, hi, hz0, hz1, hz2⟩ := info_parts info_string
  refine wpList_append_own w hgd s x 29 ho B 9 i0 (.string ⟨#[]⟩) 1 16 Tryd.underlying29 hi hz0 hz1 hz2 rfl (by decide) v n (ss.map .string) hs hown ad 1 1 [.string piece] hx rfl hc (by simp [Value.oneCell']) (by unfold maxLen; omega) (by omega) hB ?_
  intro v' w' h1 h2 _
  exact h v' w' (by simpa using h1) h2

def noCuts : Array Value := Array.replicate 256 (.bool false)
theorem zero_cuts (w : World) : (zeroValue 46).run Tryd.prog w = .ok (.agg noCuts) w := by kernel_rfl

def CutsOf (by' : ByteArray) (j : Nat) (cur : Array Value) : Prop := cur.size = 256 ∧ ∀ c : UInt8, cur[c.toNat]? = some (.bool ((by'.data.toList.take j).contains c))
theorem cutsOf_zero (by' : ByteArray) : CutsOf by' 0 noCuts := by
  refine ⟨by simp [noCuts], fun c => ?_⟩
  have := c.toNat_lt
  have h256 : c.toNat < 256 := this
  simp [noCuts, h256]
theorem cutsOf_succ {by' : ByteArray} {j : Nat} {cur : Array Value} {d : UInt8} (hj : j < by'.size) (hd : by'[j]'hj = d) (h : CutsOf by' j cur) : CutsOf by' (j + 1) (cur.setIfInBounds d.toNat (.bool true)) := by
  refine ⟨by simp [h.1], fun c => ?_⟩
  have ht : by'.data.toList.take (j + 1) = by'.data.toList.take j ++ [d] := by
    rw [List.take_succ_eq_append_getElem (by simpa using hj)]
    simp only [Array.getElem_toList]
    rw [show by'.data[j] = d from hd]
  have hdl := d.toNat_lt
  rw [ht, Array.getElem?_setIfInBounds]
  by_cases e : d.toNat = c.toNat
  · rw [if_pos e]
    obtain rfl : d = c := UInt8.toNat_inj.1 e
    simp [h.1, hdl]
  · rw [if_neg e, h.2 c]
    have hcd : ¬ c = d := fun h' => e (by rw [h'])
    simp [hcd]

theorem cuts_cell {by' : ByteArray} {cur : Array Value} (h : CutsOf by' by'.size cur) (w : World) (c : UInt8) : (w.alloc (.cells cur 46)).cell? ⟨w.heap.size, c.toNat, none⟩ = some (.bool (hasB by' c)) := by
  rw [World.cell?_alloc_new, h.2 c, List.take_of_length_le (by simp)]; rfl
theorem ownsRow_base {w : World} {B B' : Nat} {e : TypeId} {size : Nat} {v : Value} {n : Nat} {xs : List Value} (h : w.ownsRow B e size v n xs) (hB : B' ≤ B) : w.ownsRow B' e size v n xs := by
  obtain ⟨hl, h⟩ := h
  refine ⟨hl, ?_⟩
  rcases h with h | ⟨g, cap, cur, h1, h2, h3⟩
  · exact .inl h
  · exact .inr ⟨g, cap, cur, h1, by omega, h3⟩

set_option maxHeartbeats 400000 in
theorem impl_splitAny (s by' : ByteArray) (w : World) (hs : s.size + 2 ≤ 8796093022208) (hb : by'.size ≤ maxLen) :
    Calls Tryd.prog 11 #[.string s, .string by'] w fun e w' => ∃ v, e = .returned v ∧ w'.ownsRow w.heap.size 9 1 v (cutAll (hasB by') s).length ((cutAll (hasB by') s).map .string) ∧ Below w.heap.size w w' := by
  unfold maxLen at hb
  have hC := fun k => cutTo_bound (hasB by') s k
  have HC := Lib.hid hC
  clear hC
  go_enter Tryd.func11, Tryd.ntmps11
  have hz := zero_cuts
  go_wp2
  clear hz
  go_loopw [6] (fun jv wr => ∃ (j : Nat) (cur : Array Value), j ≤ by'.size ∧ jv = .int .i64 j ∧ wr = w.alloc (.cells cur 46) ∧ Hid (CutsOf by' j cur)) (fun jv _ => by'.size - (intOf jv).toNat)
  case atStart => exact ⟨0, _, Nat.zero_le _, rfl, rfl, cutsOf_zero by'⟩
  case round =>
    obtain ⟨j, cur, hj, rfl, rfl, HC1⟩ := hrel
    by_cases hlj : j < by'.size
    · obtain ⟨d, hdx⟩ : ∃ d, by'[j]'hlj = d := ⟨_, rfl⟩
      have hd256 : (d.toNat : Int) < 256 := by have := d.toNat_lt; omega
      have hce : (w.alloc (.cells cur 46)).cell? ⟨w.heap.size, d.toNat, none⟩ = some (.bool ((by'.data.toList.take j).contains d)) := by
        rw [World.cell?_alloc_new]
        exact HC1.out.2 d
      go_wp2
      go_roundw
      case rel => exact ⟨j + 1, _, by omega, by go_num, rfl, cutsOf_succ hlj hdx HC1.out⟩
      case measure => simp [intOf]; omega
    · obtain rfl : j = by'.size := by omega
      have HW := Lib.hid (fun c => cuts_cell HC1.out w c)
      obtain ⟨W0, hW0⟩ : ∃ W0, W0 = w.alloc (.cells cur 46) := ⟨_, rfl⟩
      rw [← hW0] at HW ⊢
      have hB0 : Below w.heap.size w W0 := by rw [hW0]; exact (Below.refl _ w).alloc (Nat.le_refl _) _
      have hS0 : W0.heap.size = w.heap.size + 1 := by rw [hW0]; simp
      have HS := Lib.hid hS0
      clear hW0 HC1 hS0
      go_wp2
      go_loopw [7, 8, 9] (fun ov fv iv wr => ∃ (k f : Nat), k ≤ s.size ∧ iv = .int .i64 k ∧ fv = .int .i64 f ∧ f ≤ k ∧ Hid (f = (cutTo (hasB by') s k).2) ∧ Hid (wr.ownsRow (w.heap.size + 1) 9 1 ov (cutTo (hasB by') s k).1.length ((cutTo (hasB by') s k).1.map .string)) ∧ Hid (Below (w.heap.size + 1) W0 wr)) (fun _ _ i _ => s.size - (intOf i).toNat)
      case atStart => exact ⟨0, 0, Nat.zero_le _, rfl, rfl, Nat.le_refl _, rfl, World.ownsRow_nil _ _ _ _, Below.refl _ _⟩
      case round =>
        obtain ⟨k, f, hk, rfl, rfl, hfk, HF, HO, HB⟩ := hrel
        obtain ⟨v, rfl⟩ : ∃ v, v = u7 := ⟨_, rfl⟩
        have HA := Lib.hid (HC.out k)
        have hc1 : (cutTo (hasB by') s k).1.length + 1 ≤ 8796093022208 := by have := HA.out; omega
        have hc2 : ∀ o, w.heap.size + 1 ≤ (wr.alloc o).heap.size := fun o => by have := HB.out.size; have := HS.out; simp; omega
        by_cases hlt : k < s.size
        · obtain ⟨c, hcx⟩ : ∃ c, s[k]'hlt = c := ⟨_, rfl⟩
          have hc256 : (c.toNat : Int) < 256 := by have := c.toNat_lt; omega
          have hce : wr.cell? ⟨w.heap.size, c.toNat, none⟩ = some (.bool (hasB by' c)) := (HB.out.cell (p := ⟨w.heap.size, c.toNat, none⟩) (by simp)).trans (HW.out c)
          by_cases hp : hasB by' c = true
          · have HY := Lib.hid (cutTo_yes (p := hasB by') hlt (by rw [hcx]; exact hp))
            rw [hp] at hce
            clear hp
            go_wp2_with (at_builtin; refine append_str rfl _ _ rfl (w.heap.size + 1) _ _ _ (s.extract f k) ⟨wr.heap.size, 0, none⟩ rfl (HO.out.alloc _) rfl (cell_one_new _ _ _) hc1 (hc2 _) ?_; intro v' w1 h1 hg1)
            go_roundw
            case rel =>
              refine ⟨k + 1, k + 1, by omega, by go_num, by go_num, Nat.le_refl _, by rw [HY.out]; rfl, ?_, (HB.out.alloc (by have := HB.out.size; have := HS.out; omega) _).grown hg1 (hc2 _) fun g hg => (HO.out.lt g hg).1⟩
              rw [HY.out, ← HF.out]
              unfold Hid
              simpa using h1
            case measure => simp [intOf]; omega
          · have HN := Lib.hid (cutTo_no (p := hasB by') hlt (by rw [hcx]; simpa using hp))
            rw [Bool.eq_false_iff.2 hp] at hce
            clear hp
            go_wp2
            go_roundw
            case rel => exact ⟨k + 1, f, by omega, by go_num, rfl, by omega, by rw [HN.out]; exact HF, by rw [HN.out]; exact HO, HB.out⟩
            case measure => simp [intOf]; omega
        · obtain rfl : k = s.size := by omega
          go_wp2_with (at_builtin; refine append_str rfl _ _ rfl (w.heap.size + 1) _ _ _ (s.extract f s.size) ⟨wr.heap.size, 0, none⟩ rfl (HO.out.alloc _) rfl (cell_one_new _ _ _) hc1 (hc2 _) ?_; intro v' w1 h1 hg1)
          go_ret
          refine ⟨v', rfl, ?_, hB0.trans (((HB.out.alloc (by have := HB.out.size; have := HS.out; omega) _).grown hg1 (hc2 _) fun g hg => (HO.out.lt g hg).1).mono (by omega))⟩
          have e : cutAll (hasB by') s = (cutTo (hasB by') s s.size).1 ++ [s.extract f s.size] := by rw [HF.out]; rfl
          rw [e]
          refine ownsRow_base (B := w.heap.size + 1) ?_ (by omega)
          simpa using h1

end Go.Proofs.YtmjbnbabhgngpaaDoor
