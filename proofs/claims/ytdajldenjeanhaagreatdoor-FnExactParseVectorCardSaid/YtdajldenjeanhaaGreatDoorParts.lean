/- Parts: Join Split LawSplit Lines Name. -/
import Derived.Test.YtdajldenjeanhaaGreatDoorBase
import Derived.Lib.Join
import Derived.Lib.Repeat
import Derived.WalkSmall
/-! Join -/
namespace Go.Proofs.YtdajldenjeanhaaGreatDoor
set_option maxRecDepth 100000
set_option linter.unusedVariables false
set_option linter.unusedSimpArgs false
open Go.RowKit

def joinK (ss : List ByteArray) (sep : ByteArray) (k : Nat) : List UInt8 := Lib.join ((ss.take k).map (·.data.toList)) sep.data.toList
theorem join_snoc (xs : List (List UInt8)) (x sep : List UInt8) (h : xs ≠ []) : Lib.join (xs ++ [x]) sep = Lib.join xs sep ++ sep ++ x := by
  cases xs with
  | nil => exact absurd rfl h
  | cons a r => rw [List.cons_append, Lib.join_cons, Lib.join_cons]; simp [Lib.joinTail]
theorem joinK_zero (ss : List ByteArray) (sep : ByteArray) : joinK ss sep 0 = [] := by simp [joinK, Lib.join, List.intercalate]
theorem joinK_one {ss : List ByteArray} {s : ByteArray} (sep : ByteArray) (h : 0 < ss.length) (hs : ss[0]'h = s) : joinK ss sep 1 = s.data.toList := by
  cases ss with
  | nil => simp at h
  | cons a r => simp at hs; subst hs; simp [joinK, Lib.join, List.intercalate]
theorem joinK_succ {ss : List ByteArray} {s : ByteArray} {k : Nat} (sep : ByteArray) (hk : 0 < k) (h : k < ss.length) (hs : ss[k]'h = s) : joinK ss sep (k + 1) = joinK ss sep k ++ sep.data.toList ++ s.data.toList := by
  unfold joinK
  rw [List.take_succ_eq_append_getElem h, List.map_append, hs, List.map_cons, List.map_nil, join_snoc]
  intro h'
  have := congrArg List.length h'
  simp only [List.length_map, List.length_take, List.length_nil] at this
  omega
theorem str_append (l : List UInt8) (s : ByteArray) : (⟨l.toArray⟩ : ByteArray) ++ s = ⟨(l ++ s.data.toList).toArray⟩ := by
  apply ByteArray.ext
  simp [ByteArray.data_append]

theorem ret_join0 (s : ByteArray) : Value.string (⟨#[]⟩ ++ s) = Value.string ⟨s.data.toList.toArray⟩ := by
  refine congrArg Value.string (ByteArray.ext ?_)
  simp [ByteArray.data_append]
theorem ret_join1 (out : List UInt8) (sep s : ByteArray) : Value.string ((⟨out.toArray⟩ : ByteArray) ++ sep ++ s) = Value.string ⟨(out ++ sep.data.toList ++ s.data.toList).toArray⟩ := by
  rw [str_append, str_append]

set_option maxHeartbeats 400000 in
theorem spec_join (v : Value) (ss : List ByteArray) (sep : ByteArray) (w : World) (h : RowOf .string w v ss) (hB : ∀ k, (joinK ss sep k).length ≤ 140737488355328) (hsep : sep.size ≤ 140737488355328) (hss : ∀ k (h : k < ss.length), (ss[k]'h).size ≤ 140737488355328) :
    Calls Tryz.prog 17 #[v, .string sep] w fun e w' => e = .returned (.string ⟨(joinK ss sep ss.length).toArray⟩) ∧ w' = w := by
  obtain ⟨a, c, rfl, hc, hm, hr⟩ := h
  unfold maxLen at hm
  have R := Lib.hid hr
  have HB := Lib.hid hB
  have HS := Lib.hid hss
  clear hr hB hss
  obtain ⟨n, hn⟩ : ∃ n, ss.length = n := ⟨_, rfl⟩
  rw [hn] at hc ⊢
  have HN := Lib.hid hn
  clear hn
  go_enter Tryz.func17, Tryz.ntmps17
  go_wp2
  go_loop [5, 6, 7, 10] (fun sv _ _ iv => ∃ (k : Nat) (out : List UInt8), k ≤ n ∧ iv = .int .i64 k ∧ sv = .string ⟨out.toArray⟩ ∧ Hid (out = joinK ss sep k)) (fun _ _ _ iv => n - (intOf iv).toNat)
  case atStart => exact ⟨0, [], Nat.zero_le _, rfl, rfl, (joinK_zero ss sep).symm⟩
  case round =>
    obtain ⟨k, out, hk, rfl, rfl, HO⟩ := hrel
    have hol : out.length ≤ 140737488355328 := by rw [HO.out]; exact HB.out k
    by_cases hlt : k < n
    · obtain ⟨b, o, rfl, hx⟩ := R.out k (by rw [HN.out]; exact hlt)
      obtain ⟨s, hs⟩ : ∃ s, ss[k]'(by rw [HN.out]; exact hlt) = s := ⟨_, rfl⟩
      have hsl : s.size ≤ 140737488355328 := by rw [← hs]; exact HS.out k _
      rw [hs] at hx
      by_cases hk0 : k = 0
      · have H0 := Lib.hid hk0
        have HJ := Lib.hid (show joinK ss sep 1 = s.data.toList from joinK_one sep (by rw [HN.out]; omega) (by subst hk0; exact hs))
        have hz : out = [] := by rw [HO.out, hk0, joinK_zero]
        subst hz
        have hk1 : (k : Int) ≤ 0 := by omega
        clear hk0
        go_wp2
        go_round
        case rel => exact ⟨k + 1, s.data.toList, by omega, by go_num, ret_join0 s, by rw [H0.out]; exact HJ.out.symm⟩
        case measure => simp [intOf]; omega
      · have HJ := Lib.hid (joinK_succ sep (by omega) (by rw [HN.out]; exact hlt) hs)
        go_wp2
        go_round
        case rel => exact ⟨k + 1, out ++ sep.data.toList ++ s.data.toList, by omega, by go_num, ret_join1 out sep s, by rw [HO.out]; exact HJ.out.symm⟩
        case measure => simp [intOf]; omega
    · obtain rfl : k = n := by omega
      go_wp2
      go_ret
      exact ⟨by rw [HO.out]; rfl, rfl⟩

end Go.Proofs.YtdajldenjeanhaaGreatDoor

/-! Split -/
namespace Go.Proofs.YtdajldenjeanhaaGreatDoor
set_option maxRecDepth 100000
set_option linter.unusedVariables false
set_option linter.unusedSimpArgs false
open Go.RowKit

def hasB (by' : ByteArray) (c : UInt8) : Bool := by'.data.toList.contains c
/-- the pieces that are closed before place k, and where the open one begins -/
def cutTo (p : UInt8 → Bool) (s : ByteArray) : Nat → List ByteArray × Nat
  | 0 => ([], 0)
  | k + 1 => if (match s.data[k]? with | some c => p c | none => false) then ((cutTo p s k).1 ++ [s.extract (cutTo p s k).2 k], k + 1) else cutTo p s k
theorem cutTo_yes {p : UInt8 → Bool} {s : ByteArray} {k : Nat} (hk : k < s.size) (h : p (s[k]'hk) = true) : cutTo p s (k + 1) = ((cutTo p s k).1 ++ [s.extract (cutTo p s k).2 k], k + 1) := by
  have : s.data[k]? = some (s[k]'hk) := by simp [ByteArray.getElem_eq_getElem_data]
  simp [cutTo, this, h]
theorem cutTo_no {p : UInt8 → Bool} {s : ByteArray} {k : Nat} (hk : k < s.size) (h : p (s[k]'hk) = false) : cutTo p s (k + 1) = cutTo p s k := by
  have : s.data[k]? = some (s[k]'hk) := by simp [ByteArray.getElem_eq_getElem_data]
  simp [cutTo, this, h]
theorem cutTo_bound (p : UInt8 → Bool) (s : ByteArray) : ∀ k, (cutTo p s k).2 ≤ k ∧ (cutTo p s k).1.length ≤ k
  | 0 => by simp [cutTo]
  | k + 1 => by
    have ih := cutTo_bound p s k
    unfold cutTo
    split <;> split
    all_goals first | omega | (simp only [List.length_append, List.length_singleton]; omega)
def cutAll (p : UInt8 → Bool) (s : ByteArray) : List ByteArray := (cutTo p s s.size).1 ++ [s.extract (cutTo p s s.size).2 s.size]
theorem cutAll_length (p : UInt8 → Bool) (s : ByteArray) : (cutAll p s).length ≤ s.size + 1 := by
  have := cutTo_bound p s s.size
  simp [cutAll]; omega

theorem hasB_yes {by' : ByteArray} {j : Nat} {c : UInt8} (hj : j < by'.size) (h : by'[j]'hj = c) : hasB by' c = true := by
  unfold hasB
  rw [List.contains_iff_mem, ← h]
  have : by'[j]'hj = by'.data[j]'hj := rfl
  rw [this]; simp
theorem hasB_no {by' : ByteArray} {c : UInt8} (h : ∀ t (h : t < by'.size), t < by'.size → by'[t]'h ≠ c) : hasB by' c = false := by
  unfold hasB
  rw [Bool.eq_false_iff]
  intro hc
  rw [List.contains_iff_mem] at hc
  obtain ⟨j, hj, e⟩ := List.getElem_of_mem hc
  have hj' : j < by'.size := by simpa using hj
  exact h j hj' hj' e
theorem hin_succ {by' : ByteArray} {j : Nat} {c d : UInt8} (hj : j < by'.size) (hd : by'[j]'hj = d) (hcd : ¬ c = d) (h : ∀ t (h : t < by'.size), t < j → by'[t]'h ≠ c) : ∀ t (h : t < by'.size), t < j + 1 → by'[t]'h ≠ c := by
  intro t ht htj
  by_cases e : t = j
  · subst e; rw [hd]; exact fun h' => hcd h'.symm
  · exact h t ht (by omega)
theorem ownsRow_drewN {w : World} {B : Nat} {e : TypeId} {size : Nat} {v : Value} {n : Nat} {xs : List Value} (h : w.ownsRow B e size v n xs) (q : Nat) : (w.drewN q).ownsRow B e size v n xs := h
theorem below_drewN' {B : Nat} {a w : World} (h : Below B a w) (q : Nat) : Below B a (w.drewN q) := ⟨h.os, h.tape, h.output, h.size, h.block⟩

theorem info_string : (Tryz.prog.info? 9).map (fun i => (i.zero, i.size, i.bytes)) = some (some (.string ⟨#[]⟩), 1, 16) := by kernel_rfl

/-- 'out = append(out, piece)' on a row of strings of the call's own -/
theorem append_str {ops : Array Oper} {rest : List Oper} {o : Oper} {a : Act} {Q : Exit → Act → World → Prop} {w : World} (hgd : o.guard = none) (s x : Operand)
    (ho : o.op = .call { callee := .builtin .append, args := #[s, x], argTypes := #[39, 39] })
    (B n : Nat) (v : Value) (ss : List ByteArray) (piece : ByteArray) (ad : Addr) (hs : a.eval s = v) (hown : w.ownsRow B 9 1 v n (ss.map .string)) (hx : a.eval x = .slice (some ad) 1 1)
    (hc : ∀ j u, [Value.string piece][j]? = some u → w.cell? (ad.add j) = some u) (hn : n + 1 ≤ 8796093022208) (hB : B ≤ w.heap.size)
    (h : ∀ v' w', w'.ownsRow B 9 1 v' (n + 1) ((ss ++ [piece]).map .string) → w.grownBy w' v.ownBlock → wpList Tryz.prog ops Q rest (a.put o.dst v') w') : wpList Tryz.prog ops Q (o :: rest) a w := by
  obtain ⟨i0, hi, hz0, hz1, hz2⟩ := info_parts info_string
  refine wpList_append_own w hgd s x 39 ho B 9 i0 (.string ⟨#[]⟩) 1 16 Tryz.underlying39 hi hz0 hz1 hz2 rfl (by decide) v n (ss.map .string) hs hown ad 1 1 [.string piece] hx rfl hc (by simp [Value.oneCell']) (by unfold maxLen; omega) (by omega) hB ?_
  intro v' w' h1 h2 _
  exact h v' w' (by simpa using h1) h2

set_option maxHeartbeats 400000 in
theorem spec_splitAny (s by' : ByteArray) (w : World) (hs : s.size + 2 ≤ 8796093022208) (hb : by'.size ≤ maxLen) :
    Calls Tryz.prog 23 #[.string s, .string by'] w fun e w' => ∃ v, e = .returned v ∧ w'.ownsRow w.heap.size 9 1 v (cutAll (hasB by') s).length ((cutAll (hasB by') s).map .string) ∧ Below w.heap.size w w' := by
  unfold maxLen at hb
  go_enter Tryz.func23, Tryz.ntmps23
  have hC := fun k => cutTo_bound (hasB by') s k
  have HC := Lib.hid hC
  clear hC
  go_wp2
  go_loopw [5, 6, 7] (fun ov fv iv wr => ∃ (k f : Nat), k ≤ s.size ∧ iv = .int .i64 k ∧ fv = .int .i64 f ∧ f ≤ k ∧ Hid (f = (cutTo (hasB by') s k).2) ∧ Hid (wr.ownsRow w.heap.size 9 1 ov (cutTo (hasB by') s k).1.length ((cutTo (hasB by') s k).1.map .string)) ∧ Below w.heap.size w wr) (fun _ _ i _ => s.size - (intOf i).toNat)
  case atStart => exact ⟨0, 0, Nat.zero_le _, rfl, rfl, Nat.le_refl _, rfl, World.ownsRow_lit w #[] 0 (Nat.le_refl _) (by unfold maxLen; omega) (by simp), (Below.refl _ w).alloc (Nat.le_refl _) _⟩
  case round =>
    obtain ⟨k, f, hk, rfl, rfl, hfk, HF, HO, hbl⟩ := hrel
    by_cases hlt : k < s.size
    · obtain ⟨wo, rfl⟩ : ∃ wo : World, wo = wr := ⟨_, rfl⟩
      obtain ⟨c, hcx⟩ : ∃ c, s[k]'hlt = c := ⟨_, rfl⟩
      obtain ⟨v, rfl⟩ : ∃ v, v = u5 := ⟨_, rfl⟩
      have hin : Hid (∀ t (h : t < by'.size), t < 0 → by'[t]'h ≠ c) := fun _ _ h => absurd h (by omega)
      have HA := Lib.hid (HC.out k)
      go_wp2
      go_loopw [5, 6, 8] (fun ov2 fv2 jv wr => ∃ j q : Nat, j ≤ by'.size ∧ jv = .int .i64 j ∧ fv2 = .int .i64 f ∧ ov2 = v ∧ Hid (∀ t (h : t < by'.size), t < j → by'[t]'h ≠ c) ∧ wr = wo.drewN q) (fun _ _ j _ => by'.size - (intOf j).toNat)
      case atStart => exact ⟨0, 0, Nat.zero_le _, rfl, rfl, rfl, hin, rfl⟩
      case round =>
        obtain ⟨j, q, hj, rfl, rfl, rfl, HJ, rfl⟩ := hrel
        by_cases hlj : j < by'.size
        · obtain ⟨d, hdx⟩ : ∃ d, by'[j]'hlj = d := ⟨_, rfl⟩
          by_cases hcd : c = d
          · subst hcd
            have HY := Lib.hid (cutTo_yes (p := hasB by') hlt (by rw [hcx]; exact hasB_yes hlj hdx))
            have hc1 : (cutTo (hasB by') s k).1.length + 1 ≤ 8796093022208 := by have := HA.out; omega
            have hc2 : ∀ o q, w.heap.size ≤ ((wo.alloc o).drewN q).heap.size := fun o q => by have := hbl.size; show _ ≤ (wo.alloc o).heap.size; simp; omega
            go_wp2
            go_region
            go_wp2_with (at_builtin; refine append_str rfl _ _ rfl w.heap.size _ _ _ (s.extract f k) ⟨wo.heap.size, 0, none⟩ rfl (ownsRow_drewN (HO.out.alloc _) _) rfl (cell_one_new _ _ _) hc1 (hc2 _ _) ?_; intro v' w1 h1 hg1)
            go_roundw
            case rel =>
              refine ⟨k + 1, k + 1, by omega, by go_num, by go_num, Nat.le_refl _, by rw [HY.out]; rfl, ?_, (below_drewN' (hbl.alloc hbl.size _) _).grown hg1 (hc2 _ _) fun g hg => (HO.out.lt g hg).1⟩
              rw [HY.out, ← HF.out]
              unfold Hid
              simpa using h1
            case measure => simp [intOf]; omega
          · have hne : ((c.toNat : Int) == (d.toNat : Int)) = false := by simp; exact fun h => hcd (UInt8.toNat_inj.1 (by omega))
            go_wp2
            go_region
            go_wp2
            go_roundw
            case rel => exact ⟨j + 1, q + 1, by omega, by go_num, rfl, rfl, hin_succ hlj hdx hcd HJ.out, rfl⟩
            case measure => simp [intOf]; omega
        · obtain rfl : j = by'.size := by omega
          have HN := Lib.hid (cutTo_no (p := hasB by') hlt (by rw [hcx]; exact hasB_no HJ.out))
          go_wp2
          go_roundw
          case rel => exact ⟨k + 1, f, by omega, by go_num, rfl, by omega, by rw [HN.out]; exact HF, by rw [HN.out]; exact ownsRow_drewN HO.out _, below_drewN' hbl _⟩
          case measure => simp [intOf]; omega
    · obtain rfl : k = s.size := by omega
      have HA := Lib.hid (HC.out s.size)
      have hc1 : (cutTo (hasB by') s s.size).1.length + 1 ≤ 8796093022208 := by have := HA.out; omega
      have hc2 : ∀ o, w.heap.size ≤ (wr.alloc o).heap.size := fun o => by have := hbl.size; simp; omega
      go_wp2_with (at_builtin; go_loud (refine append_str rfl _ _ rfl w.heap.size _ _ _ (s.extract f s.size) ⟨wr.heap.size, 0, none⟩ rfl (HO.out.alloc _) rfl (cell_one_new _ _ _) hc1 (hc2 _) ?_); intro v' w1 h1 hg1)
      go_ret
      refine ⟨v', rfl, ?_, (hbl.alloc hbl.size _).grown hg1 (hc2 _) fun g hg => (HO.out.lt g hg).1⟩
      have e : cutAll (hasB by') s = (cutTo (hasB by') s s.size).1 ++ [s.extract f s.size] := by rw [HF.out]; rfl
      rw [e]
      simpa using h1


def noCuts : Array Value := Array.replicate 256 (.bool false)
theorem zero_cuts (w : World) : (zeroValue 67).run Tryz.prog w = .ok (.agg noCuts) w := by kernel_rfl

def CutsOf (by' : ByteArray) (j : Nat) (cur : Array Value) : Prop := cur.size = 256 ∧ ∀ c : UInt8, cur[c.toNat]? = some (.bool ((by'.data.toList.take j).contains c))
theorem cutsOf_zero (by' : ByteArray) : CutsOf by' 0 noCuts := by
  refine ⟨by simp [noCuts], fun c => ?_⟩
  have := c.toNat_lt
  have h256 : c.toNat < 256 := this
  simp [noCuts, h256]
theorem cutsOf_succ {by' : ByteArray} {j : Nat} {cur : Array Value} {d : UInt8} (hj : j < by'.size) (hd : by'[j]'hj = d) (h : CutsOf by' j cur) : CutsOf by' (j + 1) (cur.setIfInBounds d.toNat (.bool true)) := by
  refine ⟨by simp [h.1], fun c => ?_⟩
  have ht : by'.data.toList.take (j + 1) = by'.data.toList.take j ++ [d] := by
    rw [List.take_succ_eq_append_getElem (by simpa using hj)]
    simp only [Array.getElem_toList]
    rw [show by'.data[j] = d from hd]
  have hdl := d.toNat_lt
  rw [ht, Array.getElem?_setIfInBounds]
  by_cases e : d.toNat = c.toNat
  · rw [if_pos e]
    obtain rfl : d = c := UInt8.toNat_inj.1 e
    simp [h.1, hdl]
  · rw [if_neg e, h.2 c]
    have hcd : ¬ c = d := fun h' => e (by rw [h'])
    simp [hcd]

theorem cuts_cell {by' : ByteArray} {cur : Array Value} (h : CutsOf by' by'.size cur) (w : World) (c : UInt8) : (w.alloc (.cells cur 67)).cell? ⟨w.heap.size, c.toNat, none⟩ = some (.bool (hasB by' c)) := by
  rw [World.cell?_alloc_new, h.2 c, List.take_of_length_le (by simp)]; rfl
set_option maxHeartbeats 400000 in
theorem impl_splitAny (s by' : ByteArray) (w : World) (hs : s.size + 2 ≤ 8796093022208) (hb : by'.size ≤ maxLen) :
    Calls Tryz.prog 25 #[.string s, .string by'] w fun e w' => ∃ v, e = .returned v ∧ w'.ownsRow w.heap.size 9 1 v (cutAll (hasB by') s).length ((cutAll (hasB by') s).map .string) ∧ Below w.heap.size w w' := by
  unfold maxLen at hb
  have hC := fun k => cutTo_bound (hasB by') s k
  have HC := Lib.hid hC
  clear hC
  go_enter Tryz.func25, Tryz.ntmps25
  have hz := zero_cuts
  go_wp2
  clear hz
  go_loopw [6] (fun jv wr => ∃ (j : Nat) (cur : Array Value), j ≤ by'.size ∧ jv = .int .i64 j ∧ wr = w.alloc (.cells cur 67) ∧ Hid (CutsOf by' j cur)) (fun jv _ => by'.size - (intOf jv).toNat)
  case atStart => exact ⟨0, _, Nat.zero_le _, rfl, rfl, cutsOf_zero by'⟩
  case round =>
    obtain ⟨j, cur, hj, rfl, rfl, HC1⟩ := hrel
    by_cases hlj : j < by'.size
    · obtain ⟨d, hdx⟩ : ∃ d, by'[j]'hlj = d := ⟨_, rfl⟩
      have hd256 : (d.toNat : Int) < 256 := by have := d.toNat_lt; omega
      have hce : (w.alloc (.cells cur 67)).cell? ⟨w.heap.size, d.toNat, none⟩ = some (.bool ((by'.data.toList.take j).contains d)) := by
        rw [World.cell?_alloc_new]
        exact HC1.out.2 d
      go_wp2
      go_roundw
      case rel => exact ⟨j + 1, _, by omega, by go_num, rfl, cutsOf_succ hlj hdx HC1.out⟩
      case measure => simp [intOf]; omega
    · obtain rfl : j = by'.size := by omega
      have HW := Lib.hid (fun c => cuts_cell HC1.out w c)
      obtain ⟨W0, hW0⟩ : ∃ W0, W0 = w.alloc (.cells cur 67) := ⟨_, rfl⟩
      rw [← hW0] at HW ⊢
      have hB0 : Below w.heap.size w W0 := by rw [hW0]; exact (Below.refl _ w).alloc (Nat.le_refl _) _
      have hS0 : W0.heap.size = w.heap.size + 1 := by rw [hW0]; simp
      have HS := Lib.hid hS0
      clear hW0 HC1 hS0
      go_wp2
      go_loopw [7, 8, 9] (fun ov fv iv wr => ∃ (k f : Nat), k ≤ s.size ∧ iv = .int .i64 k ∧ fv = .int .i64 f ∧ f ≤ k ∧ Hid (f = (cutTo (hasB by') s k).2) ∧ Hid (wr.ownsRow (w.heap.size + 1) 9 1 ov (cutTo (hasB by') s k).1.length ((cutTo (hasB by') s k).1.map .string)) ∧ Hid (Below (w.heap.size + 1) W0 wr)) (fun _ _ i _ => s.size - (intOf i).toNat)
      case atStart => exact ⟨0, 0, Nat.zero_le _, rfl, rfl, Nat.le_refl _, rfl, World.ownsRow_nil _ _ _ _, Below.refl _ _⟩
      case round =>
        obtain ⟨k, f, hk, rfl, rfl, hfk, HF, HO, HB⟩ := hrel
        obtain ⟨v, rfl⟩ : ∃ v, v = u7 := ⟨_, rfl⟩
        have HA := Lib.hid (HC.out k)
        have hc1 : (cutTo (hasB by') s k).1.length + 1 ≤ 8796093022208 := by have := HA.out; omega
        have hc2 : ∀ o, w.heap.size + 1 ≤ (wr.alloc o).heap.size := fun o => by have := HB.out.size; have := HS.out; simp; omega
        by_cases hlt : k < s.size
        · obtain ⟨c, hcx⟩ : ∃ c, s[k]'hlt = c := ⟨_, rfl⟩
          have hc256 : (c.toNat : Int) < 256 := by have := c.toNat_lt; omega
          have hce : wr.cell? ⟨w.heap.size, c.toNat, none⟩ = some (.bool (hasB by' c)) := (HB.out.cell (p := ⟨w.heap.size, c.toNat, none⟩) (by simp)).trans (HW.out c)
          by_cases hp : hasB by' c = true
          · have HY := Lib.hid (cutTo_yes (p := hasB by') hlt (by rw [hcx]; exact hp))
            rw [hp] at hce
            clear hp
            go_wp2_with (at_builtin; refine append_str rfl _ _ rfl (w.heap.size + 1) _ _ _ (s.extract f k) ⟨wr.heap.size, 0, none⟩ rfl (HO.out.alloc _) rfl (cell_one_new _ _ _) hc1 (hc2 _) ?_; intro v' w1 h1 hg1)
            go_roundw
            case rel =>
              refine ⟨k + 1, k + 1, by omega, by go_num, by go_num, Nat.le_refl _, by rw [HY.out]; rfl, ?_, (HB.out.alloc (by have := HB.out.size; have := HS.out; omega) _).grown hg1 (hc2 _) fun g hg => (HO.out.lt g hg).1⟩
              rw [HY.out, ← HF.out]
              unfold Hid
              simpa using h1
            case measure => simp [intOf]; omega
          · have HN := Lib.hid (cutTo_no (p := hasB by') hlt (by rw [hcx]; simpa using hp))
            rw [Bool.eq_false_iff.2 hp] at hce
            clear hp
            go_wp2
            go_roundw
            case rel => exact ⟨k + 1, f, by omega, by go_num, rfl, by omega, by rw [HN.out]; exact HF, by rw [HN.out]; exact HO, HB.out⟩
            case measure => simp [intOf]; omega
        · obtain rfl : k = s.size := by omega
          go_wp2_with (at_builtin; refine append_str rfl _ _ rfl (w.heap.size + 1) _ _ _ (s.extract f s.size) ⟨wr.heap.size, 0, none⟩ rfl (HO.out.alloc _) rfl (cell_one_new _ _ _) hc1 (hc2 _) ?_; intro v' w1 h1 hg1)
          go_ret
          refine ⟨v', rfl, ?_, hB0.trans (((HB.out.alloc (by have := HB.out.size; have := HS.out; omega) _).grown hg1 (hc2 _) fun g hg => (HO.out.lt g hg).1).mono (by omega))⟩
          have e : cutAll (hasB by') s = (cutTo (hasB by') s s.size).1 ++ [s.extract f s.size] := by rw [HF.out]; rfl
          rw [e]
          refine ownsRow_base (B := w.heap.size + 1) ?_ (by omega)
          simpa using h1

end Go.Proofs.YtdajldenjeanhaaGreatDoor

/-! LawSplit -/
namespace Go.Proofs.YtdajldenjeanhaaGreatDoor
set_option maxRecDepth 100000
set_option linter.unusedVariables false
set_option linter.unusedSimpArgs false
open Go.RowKit

theorem ownsRow_grown {w w' : World} {B : Nat} {e : TypeId} {size : Nat} {v : Value} {n : Nat} {xs : List Value} {row : Option Nat} (h : w.ownsRow B e size v n xs) (hg : w.grownBy w' row) (hne : ∀ g g', v.ownBlock = some g → row = some g' → g ≠ g') : w'.ownsRow B e size v n xs :=
  h.kept hg (by cases hv : v.ownBlock with
    | none => exact .inl rfl
    | some g => exact .inr (fun h => by cases row with
      | none => simp at h
      | some g' => exact hne g g' hv rfl (by simpa using h)))

end Go.Proofs.YtdajldenjeanhaaGreatDoor

/-! Lines -/
namespace Go.Proofs.YtdajldenjeanhaaGreatDoor
set_option maxRecDepth 100000
set_option linter.unusedVariables false
set_option linter.unusedSimpArgs false
open Go.RowKit

theorem decode_span (s : ByteArray) (i j : Nat) (h1 : 1 ≤ j) (h2 : j < (Utf8.decode s i).2) : i + j < s.size ∧ 128 ≤ (s.get! (i + j)).toNat := by
  have key : ∀ k, (i + k < s.size && (s.get! (i + k)).toNat / 64 == 2) = true → i + k < s.size ∧ 128 ≤ (s.get! (i + k)).toNat := by
    intro k h
    simp at h
    omega
  unfold Utf8.decode at h2
  simp only at h2
  repeat' split at h2
  all_goals simp only at h2
  all_goals first
    | omega
    | (rename_i hc _
       simp only [Bool.and_eq_true] at hc
       have : j = 1 ∨ j = 2 ∨ j = 3 := by omega
       rcases this with rfl | rfl | rfl
       all_goals first | omega | (apply key; simp only [Bool.and_eq_true]; first | exact hc.2 | exact hc.1.2 | exact hc.1.1.2))


def p10 : UInt8 → Bool := hasB ⟨#[10]⟩
theorem p10_yes {c : UInt8} (h : c.toNat = 10) : p10 c = true := by
  obtain rfl : c = 10 := UInt8.toNat_inj.1 h
  rfl
theorem p10_no {c : UInt8} (h : c.toNat ≠ 10) : p10 c = false := by
  unfold p10 hasB
  rw [Bool.eq_false_iff]
  intro h'
  rw [List.contains_iff_mem] at h'
  simp at h'
  subst h'
  exact h rfl
theorem get_eq (s : ByteArray) (i : Nat) (h : i < s.size) : s.get! i = s[i]'h := by
  show s.get! i = _
  simp [ByteArray.get!, getElem!_pos, h]
  rfl
theorem cutTo_skip (s : ByteArray) (p : Nat) : ∀ d, (∀ j, 1 ≤ j → j < d + 1 → p + j < s.size ∧ 128 ≤ (s.get! (p + j)).toNat) → cutTo p10 s (p + 1 + d) = cutTo p10 s (p + 1)
  | 0, _ => rfl
  | d + 1, h => by
    have ih := cutTo_skip s p d (fun j h1 h2 => h j h1 (by omega))
    have := h (d + 1) (by omega) (by omega)
    rw [show p + 1 + (d + 1) = (p + 1 + d) + 1 by omega, cutTo_no (k := p + 1 + d) (by omega) (p10_no (by
      have e := get_eq s (p + 1 + d) (by omega)
      rw [← e, show p + 1 + d = p + (d + 1) by omega]; omega)), ih]
/-- what one rune more does to the pieces -/
theorem next_rune (s : ByteArray) (p : Nat) (hp : p < s.size) : 1 ≤ (Utf8.decode s p).2 ∧ p + (Utf8.decode s p).2 ≤ s.size ∧
    ((Utf8.decode s p).1 = 10 → (Utf8.decode s p).2 = 1 ∧ cutTo p10 s (p + (Utf8.decode s p).2) = ((cutTo p10 s p).1 ++ [s.extract (cutTo p10 s p).2 p], p + 1)) ∧
    ((Utf8.decode s p).1 ≠ 10 → cutTo p10 s (p + (Utf8.decode s p).2) = cutTo p10 s p) := by
  have hw := Lib.decode_width_pos s p hp
  have hsp := decode_span s p
  have hb := decode_byte s p hp
  refine ⟨hw, ?_, ?_, ?_⟩
  · by_cases e : (Utf8.decode s p).2 = 1
    · omega
    · have := (hsp ((Utf8.decode s p).2 - 1) (by omega) (by omega)).1
      omega
  · intro h
    by_cases ha : (s[p]'hp).toNat < 128
    · have e := hb.1 ha
      rw [e] at h ⊢
      exact ⟨rfl, cutTo_yes hp (p10_yes h)⟩
    · have := hb.2 (by omega)
      omega
  · intro h
    have h10 : (s[p]'hp).toNat ≠ 10 := fun h' => by
      have e := hb.1 (by omega)
      rw [e] at h
      exact h h'
    have := cutTo_skip s p ((Utf8.decode s p).2 - 1) (fun j h1 h2 => hsp j h1 (by omega))
    rw [show p + 1 + ((Utf8.decode s p).2 - 1) = p + (Utf8.decode s p).2 by omega] at this
    rw [this, cutTo_no hp (p10_no h10)]
def lineAll (s : ByteArray) : List ByteArray := (cutTo p10 s s.size).1 ++ (if (cutTo p10 s s.size).2 < s.size then [s.extract (cutTo p10 s s.size).2 s.size] else [])
theorem lineAll_length (s : ByteArray) : (lineAll s).length ≤ s.size + 1 := by
  have := cutTo_bound p10 s s.size
  unfold lineAll
  split <;> simp <;> omega

theorem size_extract (s : ByteArray) (f : Nat) (h : f ≤ s.size) : (s.extract f s.size).size = s.size - f := by
  simp [ByteArray.size_extract]
end Go.Proofs.YtdajldenjeanhaaGreatDoor

/-! Name -/
namespace Go.Proofs.YtdajldenjeanhaaGreatDoor
set_option maxRecDepth 100000
set_option linter.unusedVariables false
set_option linter.unusedSimpArgs false
open Go.RowKit

/-- the byte at place k may stand there -/
def NmAt (k : Nat) (c : UInt8) : Prop := (97 ≤ c.toNat ∧ c.toNat ≤ 122) ∨ (k ≠ 0 ∧ 48 ≤ c.toNat ∧ c.toNat ≤ 57)
def NmTo (s : ByteArray) (k : Nat) : Prop := ∀ j (h : j < s.size), j < k → NmAt j (s[j]'h)
theorem nmTo_zero (s : ByteArray) : NmTo s 0 := fun _ _ h => absurd h (by omega)
theorem nmTo_succ {s : ByteArray} {k : Nat} (hk : k < s.size) (h : NmTo s k) (h1 : NmAt k (s[k]'hk)) : NmTo s (k + 1) := by
  intro j hj hjk
  by_cases e : j = k
  · subst e; exact h1
  · exact h j hj (by omega)
noncomputable def nameB (s : ByteArray) : Bool := @decide (NmTo s s.size ∧ 1 ≤ s.size ∧ s.size ≤ 8) (Classical.propDecidable _)
theorem nameB_no {s : ByteArray} {k : Nat} (hk : k < s.size) (h : ¬ NmAt k (s[k]'hk)) : nameB s = false := by
  unfold nameB
  rw [decide_eq_false_iff_not]
  exact fun h' => h (h'.1 k hk hk)
theorem nameB_out {s : ByteArray} (h : ¬ (1 ≤ s.size ∧ s.size ≤ 8)) : nameB s = false := by
  unfold nameB
  rw [decide_eq_false_iff_not]
  exact fun h' => h h'.2
theorem nameB_end {s : ByteArray} (h : NmTo s s.size) : nameB s = decide (1 ≤ s.size ∧ s.size ≤ 8) := by
  unfold nameB
  rw [decide_eq_decide]
  exact ⟨fun h' => h'.2, fun h' => ⟨h, h'⟩⟩

theorem nameB_no' {s : ByteArray} {k c : Nat} (hk : k < s.size) (hc : (s[k]'hk).toNat = c) (h : ¬ ((97 ≤ c ∧ c ≤ 122) ∨ (k ≠ 0 ∧ 48 ≤ c ∧ c ≤ 57))) : nameB s = false := nameB_no hk (by unfold NmAt; rw [hc]; exact h)
theorem nmTo_succ' {s : ByteArray} {k c : Nat} (hk : k < s.size) (hc : (s[k]'hk).toNat = c) (hd : NmTo s k) (h : (97 ≤ c ∧ c ≤ 122) ∨ (k ≠ 0 ∧ 48 ≤ c ∧ c ≤ 57)) : NmTo s (k + 1) := nmTo_succ hk hd (by unfold NmAt; rw [hc]; exact h)
theorem size18 (n : Nat) : (decide (1 ≤ (n : Int)) && decide ((n : Int) ≤ 8)) = decide (1 ≤ n ∧ n ≤ 8) := by
  rw [Bool.eq_iff_iff]; simp; omega

theorem l01In_any (n lo hi : Int) (w : World) :
    Calls Tryz.prog 67 #[.int .i64 n, .int .i64 lo, .int .i64 hi] w fun e w' => e = .returned (.bool (decide (lo ≤ n ∧ n ≤ hi))) ∧ w' = w := by
  by_cases a : lo ≤ n
  · by_cases b : n ≤ hi
    all_goals
      go_enter Tryz.func67, Tryz.ntmps67
      go_wp2
      go_ret
      exact ⟨ret_bool (by simp; omega), rfl⟩
  · go_enter Tryz.func67, Tryz.ntmps67
    go_wp2
    go_ret
    exact ⟨ret_bool (by simp; omega), rfl⟩

theorem is_digit_yes (c : Int) (w : World) (h0 : 48 ≤ c) (h1 : c ≤ 57) :
    Calls Tryz.prog 80 #[.int .i32 c] w fun e w' => e = .returned (.bool true) ∧ w' = w :=
  (is_digit c w (by omega) (by omega)).mono fun _ _ ⟨h, h'⟩ => ⟨by rw [h]; exact ret_bool (by simp; omega), h'⟩
theorem is_digit_no (c : Int) (w : World) (h0 : 0 ≤ c) (h1 : c ≤ 2147483647) (h2 : ¬ (48 ≤ c ∧ c ≤ 57)) :
    Calls Tryz.prog 80 #[.int .i32 c] w fun e w' => e = .returned (.bool false) ∧ w' = w :=
  (is_digit c w h0 h1).mono fun _ _ ⟨h, h'⟩ => ⟨by rw [h]; exact ret_bool (by simp; omega), h'⟩

theorem name_yes {s : ByteArray} {p r wd : Nat} (hp : p < s.size) (hD : ((s[p]'hp).toNat < 128 → (r, wd) = ((s[p]'hp).toNat, 1)) ∧ (128 ≤ (s[p]'hp).toNat → 128 ≤ (r, wd).1)) (h2 : NmAt p (s[p]'hp) → NmTo s (p + 1)) :
    ((97 ≤ r ∧ r ≤ 122) ∨ (p ≠ 0 ∧ 48 ≤ r ∧ r ≤ 57) → NmTo s (p + 1)) ∧ (r < 128 → wd = 1) := by
  by_cases hb : (s[p]'hp).toNat < 128
  · have h := hD.1 hb
    simp only [Prod.mk.injEq] at h
    exact ⟨fun h' => h2 (by unfold NmAt; rw [← h.1]; exact h'), fun _ => h.2⟩
  · have h := hD.2 (by omega)
    simp only at h
    exact ⟨fun h' => by omega, fun h' => by omega⟩
theorem name_no {s : ByteArray} {p r wd : Nat} (hp : p < s.size) (hD : ((s[p]'hp).toNat < 128 → (r, wd) = ((s[p]'hp).toNat, 1)) ∧ (128 ≤ (s[p]'hp).toNat → 128 ≤ (r, wd).1)) (h1 : ¬ NmAt p (s[p]'hp) → nameB s = false)
    (h : ¬ ((97 ≤ r ∧ r ≤ 122) ∨ (p ≠ 0 ∧ 48 ≤ r ∧ r ≤ 57))) : nameB s = false := by
  apply h1
  intro h'
  have hb : (s[p]'hp).toNat < 128 := by unfold NmAt at h'; omega
  have e := hD.1 hb
  simp only [Prod.mk.injEq] at e
  unfold NmAt at h'
  rw [← e.1] at h'
  exact h h'

end Go.Proofs.YtdajldenjeanhaaGreatDoor
