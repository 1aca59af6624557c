/- The exact law of Join: the program's string is the model's, and the row of parts is as it was. -/
import Derived.Test.YtmjbnbabhgngpaaJoin2
import Derived.Test.YtmjbnbabhgngpaaSplit
import Derived.SliceStrings
import Derived.ProofKit
namespace Go.Proofs.Ytmjbnbabhgngpaa
open Go.RowKit Go.WideShapes Go.ChangeShapes

def sizes (ss : List ByteArray) : Nat := (ss.map (·.size)).sum
theorem sizes_take {ss : List ByteArray} {s : ByteArray} {k : Nat} (h : k < ss.length) (hs : ss[k]'h = s) : sizes (ss.take (k + 1)) = sizes (ss.take k) + s.size := by
  unfold sizes
  rw [List.take_succ_eq_append_getElem h, List.map_append, hs]
  simp
theorem sizes_at {ss : List ByteArray} {k : Nat} (h : k < ss.length) : (ss[k]'h).size ≤ sizes ss := by
  have : (ss[k]'h).size ∈ ss.map (·.size) := List.mem_map.2 ⟨_, List.getElem_mem h, rfl⟩
  unfold sizes
  generalize ss.map (·.size) = l at this
  induction l with
  | nil => simp at this
  | cons x r ih =>
    rw [List.sum_cons]
    rcases List.mem_cons.1 this with h | h
    · omega
    · have := ih h; omega

set_option maxHeartbeats 400000 in
theorem sz_strings (v : Value) (ss : List ByteArray) (left : Int) (w : World) (h : RowOf .string w v ss) (hl0 : 0 ≤ left) (hl1 : left ≤ 4611686018427387904) (hss : ∀ k (h : k < ss.length), (ss[k]'h).size ≤ maxLen) :
    Calls Try.prog 20 #[v, .int .i64 left] w fun e w' => ∃ r : Int, e = .returned (.int .i64 r) ∧ Hid ((r = -1 ∨ (0 ≤ r ∧ (ss.length : Int) + sizes ss ≤ left))) ∧ w' = w := by
  obtain ⟨a, c, rfl, hc, hm, hr⟩ := h
  unfold maxLen at hm hss
  have R := Lib.hid hr
  have HS := Lib.hid hss
  clear hr hss
  obtain ⟨n, hn⟩ : ∃ n, ss.length = n := ⟨_, rfl⟩
  rw [hn] at hc ⊢
  have HN := Lib.hid hn
  clear hn
  by_cases hb : left - n < 0
  · go_enter Try.func20, Try.ntmps20
    go_wp2
    go_ret
    exact ⟨-1, rfl, .inl rfl, rfl⟩
  · go_enter Try.func20, Try.ntmps20
    go_wp2
    go_loop [1, 5] (fun lv iv => ∃ (k : Nat) (r : Int), k ≤ n ∧ iv = .int .i64 k ∧ lv = .int .i64 r ∧ 0 ≤ r ∧ r ≤ left ∧ Hid (r = left - n - sizes (ss.take k))) (fun _ iv => n - (intOf iv).toNat)
    case atStart => exact ⟨0, left - n, Nat.zero_le _, rfl, rfl, by omega, by omega, by unfold Hid; simp [sizes]⟩
    case round =>
      obtain ⟨k, r, hk, rfl, rfl, hr0, hr1, HR⟩ := hrel
      by_cases hlt : k < n
      · obtain ⟨b, o, rfl, hx⟩ := R.out k (by rw [HN.out]; exact hlt)
        obtain ⟨s, hs⟩ : ∃ s, ss[k]'(by rw [HN.out]; exact hlt) = s := ⟨_, rfl⟩
        have hsl : s.size ≤ 9223372036854775807 := by rw [← hs]; exact HS.out k _
        rw [hs] at hx
        have HT := Lib.hid (sizes_take _ hs)
        clear hs R
        by_cases hneg : r - s.size < 0
        · go_wp2
          go_ret
          exact ⟨-1, rfl, .inl rfl, rfl⟩
        · go_wp2
          go_round
          case rel => exact ⟨k + 1, r - s.size, by omega, by go_num, rfl, by omega, by omega, by unfold Hid; rw [HT.out, HR.out]; omega⟩
          case measure => simp [intOf]; omega
      · obtain rfl : k = n := by omega
        go_wp2
        go_ret
        refine ⟨r, rfl, .inr ⟨hr0, ?_⟩, rfl⟩
        have := HR.out
        rw [List.take_of_length_le (Nat.le_of_eq HN.out)] at this
        omega

theorem info_string1 : (Try.prog.info? 9).map (fun i => (i.zero, i.size, i.bytes)) = some (some (.string ⟨#[]⟩), 1, 16) := by kernel_rfl
theorem madeStrings (n : Nat) : (madeCells (Value.string ⟨#[]⟩).cells (n * 1)).toList.length = n := by simp [madeCells]
theorem copied_set {ss : List ByteArray} {s : ByteArray} {k : Nat} {xs : List Value} (h : k < ss.length) (hs : ss[k]'h = s) (hx : k < xs.length) : ((ss.take k).map Value.string ++ xs.drop k).set k (.string s) = (ss.take (k + 1)).map Value.string ++ xs.drop (k + 1) := by
  have hd : xs.drop k = xs[k]'hx :: xs.drop (k + 1) := List.drop_eq_getElem_cons hx
  have hl : ((ss.take k).map Value.string).length = k := by simp; omega
  rw [List.take_succ_eq_append_getElem h, hs, List.map_append, List.set_append_right _ _ (by omega), hl, Nat.sub_self, hd, List.set_cons_zero, List.append_assoc]
  rfl

set_option maxHeartbeats 400000 in
theorem to_strings (v : Value) (ss : List ByteArray) (w : World) (h : RowOf .string w v ss) (hn16 : ss.length ≤ 17592186044416) :
    Calls Try.prog 22 #[v] w fun e w' => ∃ v', e = .returned v' ∧ w'.ownsRow w.heap.size 9 1 v' ss.length (ss.map .string) ∧ Below w.heap.size w w' := by
  obtain ⟨a, c, rfl, hc, hm, hr⟩ := h
  unfold maxLen at hm
  have R := Lib.hid hr
  clear hr
  obtain ⟨n, hn⟩ : ∃ n, ss.length = n := ⟨_, rfl⟩
  rw [hn] at hc hn16 ⊢
  have HN := Lib.hid hn
  clear hn
  obtain ⟨i0, hi, hz0, hz1, hz2⟩ := info_parts info_string1
  go_enter Try.func22, Try.ntmps22
  go_wp2_with (at_make; refine wpList_make_full _ rfl _ _ 23 rfl w.heap.size 9 i0 _ 1 Try.underlying23 hi hz0 hz1 .i64 .i64 n n n rfl rfl rfl rfl (by rw [hz2]; omega) (by unfold maxLen; omega) (Nat.le_refl _) ?_; intro w1 ho1 hg1)
  have HO1 := Lib.hid ho1
  have hb1 : Below w.heap.size w w1 := (Below.refl _ w).grown hg1 (Nat.le_refl _) (fun k hk => by simp at hk)
  clear ho1 hg1
  go_loopw [4] (fun iv wr => ∃ k : Nat, k ≤ n ∧ iv = .int .i64 k ∧ Hid (wr.ownsRow w.heap.size 9 1 (.slice (some ⟨w.heap.size, 0, none⟩) n n) n ((ss.take k).map .string ++ ((madeCells (Value.string ⟨#[]⟩).cells (n * 1)).toList).drop k)) ∧ Below w.heap.size w wr) (fun iv _ => n - (intOf iv).toNat)
  case atStart => exact ⟨0, Nat.zero_le _, rfl, HO1.out, hb1⟩
  case round =>
    obtain ⟨k, hk, rfl, HO, hb⟩ := hrel
    clear hb1
    by_cases hlt : k < n
    · obtain ⟨b, o, rfl, hx⟩ := R.out k (by rw [HN.out]; exact hlt)
      obtain ⟨s, hs⟩ : ∃ s, ss[k]'(by rw [HN.out]; exact hlt) = s := ⟨_, rfl⟩
      rw [hs] at hx
      have hbl := World.block_lt_of_cell? w _ hx
      have hx1 : wr.cell? ⟨b, o + k, none⟩ = some (.string s) := (hb.cell (p := ⟨b, o + k, none⟩) hbl).trans hx
      have hfz := World.ownsRow.frozenAt HO.out k
      have hce := World.ownsRow.cellAt HO.out k (by omega)
      obtain ⟨old, ho⟩ : ∃ old, ((ss.take k).map Value.string ++ ((madeCells (Value.string ⟨#[]⟩).cells (n * 1)).toList).drop k)[k]? = some old := ⟨_, List.getElem?_eq_getElem (by have := madeStrings n; have := HN.out; simp only [List.length_append, List.length_map, List.length_take, List.length_drop]; omega)⟩
      rw [ho] at hce
      clear ho hx
      have HS := Lib.hid (World.ownsRow.stored HO.out k (.string s))
      have HC := Lib.hid (copied_set (by rw [HN.out]; exact hlt) hs (xs := (madeCells (Value.string ⟨#[]⟩).cells (n * 1)).toList) (by rw [madeStrings]; exact hlt))
      have HB := Lib.hid (hb.setCell (p := ⟨w.heap.size, k, none⟩) (Nat.le_refl _) (.string s))
      clear hs hbl hb R
      go_wp2
      go_roundw
      case rel => exact ⟨k + 1, by omega, by go_num, by have := HS.out.1; rw [HC.out] at this; exact this, HB.out⟩
      case measure => simp [intOf]; omega
    · obtain rfl : k = n := by omega
      go_wp2
      go_ret
      refine ⟨_, rfl, ?_, hb⟩
      have := HO.out
      rw [List.drop_of_length_le (by rw [madeStrings]; omega), List.append_nil, List.take_of_length_le (Nat.le_of_eq HN.out)] at this
      exact this


/-- a []string that came in, as a row -/
theorem strings_in {H : Type} {enc : TypeId × Value → H} {W : World} {a : Option Addr} {l c : Nat} {d : DataW H} {p : List MemPlace}
    (h : DataW.Trod enc Try.prog W 0 (fun _ => true) true 23 (Value.slice a l c) d p) : ∃ ss, RowOf Value.string W (.slice a l c) ss ∧ ∀ k (h : k < ss.length), (ss[k]'h).size ≤ maxLen := by
  obtain ⟨fuel, hf⟩ := h
  rcases open_strings Try.underlying23 Try.underlying9 (by kernel_rfl) hf with ⟨hcs, _⟩ | ⟨x, l', c', ss, hcs, _, hl, hm, hz, _, hcell, hws⟩
  · simp [Value.cells] at hcs
    obtain ⟨rfl, rfl, rfl⟩ := hcs
    exact ⟨[], ⟨none, 0, rfl, by simp, by unfold maxLen; omega, fun i hi => by simp at hi⟩, fun k hk => by simp at hk⟩
  · simp [Value.cells] at hcs
    obtain ⟨rfl, rfl, rfl⟩ := hcs
    have hz' : ss.length = c := by simpa using hz
    have hlt : (ss.take l).length = l := by simp; omega
    refine ⟨ss.take l, ⟨some x, c, by rw [hlt], by omega, hm, fun i hi => ?_⟩, fun k hk => hws _ (List.mem_of_mem_take (List.getElem_mem hk))⟩
    have hi' : i < ss.length := by omega
    obtain ⟨b, o, spot⟩ := x
    have h0 := hcell 0 (by omega)
    have hspot : spot = none := by simpa [Addr.add] using World.cell?_spot h0
    subst hspot
    refine ⟨b, o, rfl, ?_⟩
    have hc := hcell i hi'
    rw [add_plain] at hc
    rw [hc]
    simp [List.getD, hi']

theorem joinK_le (ss : List ByteArray) (sep : ByteArray) : ∀ k, (joinK ss sep k).length ≤ sizes ss + ss.length * sep.size := by
  intro k
  have hgen : ∀ xs : List ByteArray, (Lib.join (xs.map (·.data.toList)) sep.data.toList).length ≤ sizes xs + xs.length * sep.size := by
    intro xs
    cases xs with
    | nil => simp [Lib.join_nil]
    | cons a r =>
      rw [List.map_cons, Lib.join_length]
      have e : Lib.lens (a.data.toList :: r.map (·.data.toList)) = sizes (a :: r) := by
        unfold Lib.lens sizes
        rw [List.map_cons, List.map_map, List.map_cons]
        rfl
      have es : sep.data.toList.length = sep.size := by simp
      rw [e, es, List.length_map, List.length_cons, Nat.add_one_mul, Nat.mul_comm]
      omega
  have h1 := hgen (ss.take k)
  have h2 : sizes (ss.take k) ≤ sizes ss := by
    have : sizes ss = sizes (ss.take k) + sizes (ss.drop k) := by
      unfold sizes; rw [← List.sum_append, ← List.map_append, List.take_append_drop]
    omega
  have h3 : (ss.take k).length * sep.size ≤ ss.length * sep.size := Nat.mul_le_mul_right _ (by simp; omega)
  unfold joinK
  omega

theorem rowOf_below {α : Type} {f : α → Value} {w w' : World} {v : Value} {xs : List α} (h : RowOf f w v xs) (hb : Below w.heap.size w w') : RowOf f w' v xs := by
  obtain ⟨a, c, h1, h2, h3, h4⟩ := h
  refine ⟨a, c, h1, h2, h3, fun i hi => ?_⟩
  obtain ⟨b, o, e, hx⟩ := h4 i hi
  exact ⟨b, o, e, (hb.cell (p := ⟨b, o + i, none⟩) (by have := World.block_lt_of_cell? w _ hx; simpa using this)).trans hx⟩

set_option maxHeartbeats 1000000 in
theorem law_join (w : World) (v : Value) (ss : List ByteArray) (hrow : RowOf Value.string w v ss) (hsz : ∀ k (h : k < ss.length), (ss[k]'h).size ≤ maxLen) (by' : ByteArray) (hb : by'.size ≤ maxLen) :
    Calls Try.prog 7 #[v, .string by'] w fun e w' => e = .returned (.bool true) ∧ Below w.heap.size w w' := by
  have hb0 := hb
  unfold maxLen at hb0
  by_cases hl2 : by'.size ≤ 1048576
  · have HR := Lib.hid hrow
    have HZ := Lib.hid hsz
    clear hrow hsz
    go_enter Try.func7, Try.ntmps7
    go_wp2_with fail
    refine (sz_strings v ss _ _ HR.out (by omega) (by omega) HZ.out).mono ?_
    rintro e w0 ⟨r, rfl, hr, rfl⟩
    by_cases hneg : r < 0
    · go_wp2
      go_ret
      exact ⟨rfl, Below.refl _ _⟩
    · have hB : ss.length + sizes ss ≤ 1048576 := by have := hr.out; omega
      have hm : ss.length * by'.size ≤ 1048576 * 1048576 := Nat.mul_le_mul (by omega) hl2
      have HJ := Lib.hid (joinK_le ss by')
      have HS := Lib.hid (fun k (h : k < ss.length) => sizes_at h)
      go_wp2_with fail
      refine (to_strings v ss _ HR.out (by omega)).mono ?_
      rintro e w1 ⟨v1, rfl, o1, b1⟩
      have O1 := Lib.hid o1
      clear o1
      go_wp2_with fail
      refine (spec_join v1 ss by' _ (ownsRow_row O1.out) (fun k => by have := HJ.out k; omega) (by omega) (fun k h => by have := HS.out k h; omega)).mono ?_
      rintro e w1' ⟨rfl, rfl⟩
      have R1 := Lib.hid (rowOf_below HR.out b1)
      go_wp2_with fail
      refine (to_strings v ss _ R1.out (by omega)).mono ?_
      rintro e w2 ⟨v2, rfl, o2, b2⟩
      have O2 := Lib.hid o2
      clear o2
      go_wp2_with fail
      refine (impl_join v2 ss by' _ (ownsRow_row O2.out) (by have := HJ.out ss.length; omega) (by omega)).mono ?_
      rintro e w3 ⟨rfl, b3⟩
      have R3 := Lib.hid (rowOf_below (rowOf_below R1.out b2) b3)
      go_wp2_with fail
      refine (to_strings v ss _ R3.out (by omega)).mono ?_
      rintro e w4 ⟨v4, rfl, o4, b4⟩
      have O4 := Lib.hid o4
      have O2b := Lib.hid (ownsRow_below (ownsRow_below O2.out b3) b4)
      clear o4
      go_wp2_with fail
      refine (eq_strings _ _ _ _ (ownsRow_row O2b.out) (ownsRow_row O4.out)).mono ?_
      rintro e w5 ⟨rfl, q5, rfl⟩
      have B := Lib.hid (below_drewN' (((b1.trans (b2.mono b1.size)).trans (b3.mono (Nat.le_trans b1.size b2.size))).trans (b4.mono (Nat.le_trans b1.size (Nat.le_trans b2.size b3.size)))) q5)
      go_wp2
      go_ret
      exact ⟨rfl, B.out⟩
  · go_enter Try.func7, Try.ntmps7
    go_wp2
    go_ret
    exact ⟨rfl, Below.refl _ _⟩

end Go.Proofs.Ytmjbnbabhgngpaa
