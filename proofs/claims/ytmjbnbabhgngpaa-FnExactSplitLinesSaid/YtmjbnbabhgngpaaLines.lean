/- SplitLines of the program and of the model both give the lines of a string without their newlines; a last piece that is empty is no line. -/
import Derived.Test.YtmjbnbabhgngpaaLawSplit
import Derived.WalkSmall
namespace Go.Proofs.Ytmjbnbabhgngpaa
open Go.RowKit

theorem decode_span (s : ByteArray) (i j : Nat) (h1 : 1 ≤ j) (h2 : j < (Utf8.decode s i).2) : i + j < s.size ∧ 128 ≤ (s.get! (i + j)).toNat := by
  have key : ∀ k, (i + k < s.size && (s.get! (i + k)).toNat / 64 == 2) = true → i + k < s.size ∧ 128 ≤ (s.get! (i + k)).toNat := by
    intro k h
    simp at h
    omega
  unfold Utf8.decode at h2
  simp only at h2
  repeat' split at h2
  all_goals simp only at h2
  all_goals first
    | omega
    | (rename_i hc _
       simp only [Bool.and_eq_true] at hc
       have : j = 1 ∨ j = 2 ∨ j = 3 := by omega
       rcases this with rfl | rfl | rfl
       all_goals first | omega | (apply key; simp only [Bool.and_eq_true]; first | exact hc.2 | exact hc.1.2 | exact hc.1.1.2))


def p10 : UInt8 → Bool := hasB ⟨#[10]⟩
theorem p10_yes {c : UInt8} (h : c.toNat = 10) : p10 c = true := by
  obtain rfl : c = 10 := UInt8.toNat_inj.1 h
  rfl
theorem p10_no {c : UInt8} (h : c.toNat ≠ 10) : p10 c = false := by
  unfold p10 hasB
  rw [Bool.eq_false_iff]
  intro h'
  rw [List.contains_iff_mem] at h'
  simp at h'
  subst h'
  exact h rfl
theorem get_eq (s : ByteArray) (i : Nat) (h : i < s.size) : s.get! i = s[i]'h := by
  show s.get! i = _
  simp [ByteArray.get!, getElem!_pos, h]
  rfl
theorem cutTo_skip (s : ByteArray) (p : Nat) : ∀ d, (∀ j, 1 ≤ j → j < d + 1 → p + j < s.size ∧ 128 ≤ (s.get! (p + j)).toNat) → cutTo p10 s (p + 1 + d) = cutTo p10 s (p + 1)
  | 0, _ => rfl
  | d + 1, h => by
    have ih := cutTo_skip s p d (fun j h1 h2 => h j h1 (by omega))
    have := h (d + 1) (by omega) (by omega)
    rw [show p + 1 + (d + 1) = (p + 1 + d) + 1 by omega, cutTo_no (k := p + 1 + d) (by omega) (p10_no (by
      have e := get_eq s (p + 1 + d) (by omega)
      rw [← e, show p + 1 + d = p + (d + 1) by omega]; omega)), ih]
/-- what one rune more does to the pieces -/
theorem next_rune (s : ByteArray) (p : Nat) (hp : p < s.size) : 1 ≤ (Utf8.decode s p).2 ∧ p + (Utf8.decode s p).2 ≤ s.size ∧
    ((Utf8.decode s p).1 = 10 → (Utf8.decode s p).2 = 1 ∧ cutTo p10 s (p + (Utf8.decode s p).2) = ((cutTo p10 s p).1 ++ [s.extract (cutTo p10 s p).2 p], p + 1)) ∧
    ((Utf8.decode s p).1 ≠ 10 → cutTo p10 s (p + (Utf8.decode s p).2) = cutTo p10 s p) := by
  have hw := Lib.decode_width_pos s p hp
  have hsp := decode_span s p
  have hb := decode_byte s p hp
  refine ⟨hw, ?_, ?_, ?_⟩
  · by_cases e : (Utf8.decode s p).2 = 1
    · omega
    · have := (hsp ((Utf8.decode s p).2 - 1) (by omega) (by omega)).1
      omega
  · intro h
    by_cases ha : (s[p]'hp).toNat < 128
    · have e := hb.1 ha
      rw [e] at h ⊢
      exact ⟨rfl, cutTo_yes hp (p10_yes h)⟩
    · have := hb.2 (by omega)
      omega
  · intro h
    have h10 : (s[p]'hp).toNat ≠ 10 := fun h' => by
      have e := hb.1 (by omega)
      rw [e] at h
      exact h h'
    have := cutTo_skip s p ((Utf8.decode s p).2 - 1) (fun j h1 h2 => hsp j h1 (by omega))
    rw [show p + 1 + ((Utf8.decode s p).2 - 1) = p + (Utf8.decode s p).2 by omega] at this
    rw [this, cutTo_no hp (p10_no h10)]
def lineAll (s : ByteArray) : List ByteArray := (cutTo p10 s s.size).1 ++ (if (cutTo p10 s s.size).2 < s.size then [s.extract (cutTo p10 s s.size).2 s.size] else [])
theorem lineAll_length (s : ByteArray) : (lineAll s).length ≤ s.size + 1 := by
  have := cutTo_bound p10 s s.size
  unfold lineAll
  split <;> simp <;> omega

set_option maxHeartbeats 400000 in
theorem impl_splitLines (s : ByteArray) (w : World) (hs : s.size + 2 ≤ 8796093022208) :
    Calls Try.prog 19 #[.string s] w fun e w' => ∃ v, e = .returned v ∧ w'.ownsRow w.heap.size 9 1 v (lineAll s).length ((lineAll s).map .string) ∧ Below w.heap.size w w' := by
  have hC := fun k => cutTo_bound p10 s k
  have HC := Lib.hid hC
  clear hC
  have hk0 := World.iter_heap w s 0
  have hb0 : Below w.heap.size w (w.iter s 0) := (Below.refl _ w).alloc (Nat.le_refl _) _
  have HK0 := Lib.hid hk0
  clear hk0
  go_enter Try.func19, Try.ntmps19
  go_wp2
  go_loopw [3, 4, 5, 6] (fun ov fv _ _ wr => ∃ (pos f : Nat), pos ≤ s.size ∧ fv = .int .i64 f ∧ f ≤ pos ∧ Hid (wr.heap[w.heap.size]? = some (.stringIter s pos)) ∧ Hid (f = (cutTo p10 s pos).2) ∧ Hid (wr.ownsRow (w.heap.size + 1) 9 1 ov (cutTo p10 s pos).1.length ((cutTo p10 s pos).1.map .string)) ∧ Hid (Below w.heap.size w wr)) (fun _ _ _ _ wr => s.size - wr.iterPos w.heap.size)
  case atStart => exact ⟨0, 0, Nat.zero_le _, rfl, Nat.le_refl _, HK0.out, rfl, World.ownsRow_nil _ _ _ _, hb0⟩
  case round =>
    obtain ⟨pos, f, hk, rfl, hfk, HK, HF, HO, HB⟩ := hrel
    obtain ⟨v, rfl⟩ : ∃ v, v = u3 := ⟨_, rfl⟩
    have HA := Lib.hid (HC.out pos)
    have hc1 : (cutTo p10 s pos).1.length + 1 ≤ 8796093022208 := by have := HA.out; omega
    have hwk : w.heap.size < wr.heap.size := (Array.getElem?_eq_some_iff.1 HK.out).1
    by_cases hp : pos < s.size
    · have HN := Lib.hid (next_rune s pos hp)
      have hle := decode_le s pos
      have hnx : ∀ ty, (Instr.next (.pointer (some ⟨w.heap.size, 0, none⟩)) true ty).run Try.prog wr = _ := fun ty => Lib.run_next_any_at wr w.heap.size s pos ty HK.out hp
      have HP := Lib.hid (show wr.iterPos w.heap.size = pos by simp [World.iterPos, HK.out])
      have HK1 := Lib.hid (Lib.iterAt_heap wr w.heap.size s pos (pos + (Utf8.decode s pos).2) HK.out)
      have HB1 := Lib.hid (Lib.below_iterAt HB.out (Nat.le_refl _) s (pos + (Utf8.decode s pos).2))
      have HO1 := Lib.hid (ownsRow_iterAt HO.out (Nat.lt_succ_self _) s (pos + (Utf8.decode s pos).2))
      have hsz : (wr.iterAt w.heap.size s (pos + (Utf8.decode s pos).2)).heap.size = wr.heap.size := Lib.iterAt_size _ _ _ _
      generalize wr.iterAt w.heap.size s (pos + (Utf8.decode s pos).2) = W1 at hnx HK1 HB1 HO1 hsz
      have hc2 : ∀ o, w.heap.size + 1 ≤ (W1.alloc o).heap.size := fun o => by simp; omega
      clear hsz
      by_cases h10 : (Utf8.decode s pos).1 = 10
      · have HR := Lib.hid (HN.out.2.2.1 h10)
        have h10b : (((Utf8.decode s pos).1 : Int) == 10) = true := by simp; omega
        clear h10
        go_wp2_with (at_builtin; refine append_str rfl _ _ rfl (w.heap.size + 1) _ _ _ (s.extract f pos) ⟨W1.heap.size, 0, none⟩ rfl (HO1.out.alloc _) rfl (cell_one_new _ _ _) hc1 (hc2 _) ?_; intro v' w1 h1 hg1)
        go_roundw
        case rel =>
          have h := HR.out.2
          refine ⟨pos + (Utf8.decode s pos).2, pos + 1, HN.out.2.1, by go_num, by have := HN.out.1; omega, ?_, by rw [h]; rfl, ?_, (HB1.out.alloc HB1.out.size _).grown hg1 (by have := hc2 (Obj.cells #[Value.string (s.extract f pos)] 9); omega) (fun g hg => by have := (HO1.out.lt g hg).1; omega)⟩
          · exact (hg1.block w.heap.size (by have := hc2 (Obj.cells #[Value.string (s.extract f pos)] 9); omega) (fun e => by have := (HO1.out.lt _ e.symm).1; omega)).trans ((Below.heap_alloc _ _ _ (by have := HB1.out.size; have := (Array.getElem?_eq_some_iff.1 HK1.out).1; omega)).trans HK1.out)
          · rw [h, ← HF.out]
            unfold Hid
            simpa using h1
        case measure =>
          have hk2 : w1.heap[w.heap.size]? = some (.stringIter s (pos + (Utf8.decode s pos).2)) := (hg1.block w.heap.size (by have := hc2 (Obj.cells #[Value.string (s.extract f pos)] 9); omega) (fun e => by have := (HO1.out.lt _ e.symm).1; omega)).trans ((Below.heap_alloc _ _ _ (by have := (Array.getElem?_eq_some_iff.1 HK1.out).1; omega)).trans HK1.out)
          have : w1.iterPos w.heap.size = pos + (Utf8.decode s pos).2 := by simp [World.iterPos, hk2]
          rw [this, HP.out]
          have := HN.out.1
          omega
      · have HR := Lib.hid (HN.out.2.2.2 h10)
        have h10b : (((Utf8.decode s pos).1 : Int) == 10) = false := by simp; omega
        clear h10
        go_wp2
        go_roundw
        case rel =>
          have h := HR.out
          exact ⟨pos + (Utf8.decode s pos).2, f, HN.out.2.1, rfl, by omega, HK1.out, by rw [h]; exact HF, by rw [h]; exact HO1.out, HB1.out⟩
        case measure =>
          have : W1.iterPos w.heap.size = pos + (Utf8.decode s pos).2 := by simp [World.iterPos, HK1.out]
          rw [this, HP.out]
          have := HN.out.1
          omega
    · obtain rfl : pos = s.size := by omega
      have hnx : ∀ ty, (Instr.next (.pointer (some ⟨w.heap.size, 0, none⟩)) true ty).run Try.prog wr = _ := fun ty => Lib.run_next_end_at wr w.heap.size s s.size ty HK.out hp
      have hc2 : ∀ o, w.heap.size + 1 ≤ (wr.alloc o).heap.size := fun o => by simp; omega
      by_cases hf : f < s.size
      · have e : lineAll s = (cutTo p10 s s.size).1 ++ [s.extract f s.size] := by unfold lineAll; rw [← HF.out, if_pos hf]
        have HE := Lib.hid e
        clear e
        go_wp2_with (at_builtin; refine append_str rfl _ _ rfl (w.heap.size + 1) _ _ _ (s.extract f s.size) ⟨wr.heap.size, 0, none⟩ rfl (HO.out.alloc _) rfl (cell_one_new _ _ _) hc1 (hc2 _) ?_; intro v' w1 h1 hg1)
        go_ret
        refine ⟨v', rfl, ?_, (HB.out.alloc HB.out.size _).grown hg1 (by have := hc2 (Obj.cells #[Value.string (s.extract f s.size)] 9); omega) (fun g hg => by have := (HO.out.lt g hg).1; omega)⟩
        rw [HE.out]
        refine ownsRow_base (B := w.heap.size + 1) ?_ (by omega)
        simpa using h1
      · have e : lineAll s = (cutTo p10 s s.size).1 := by unfold lineAll; rw [← HF.out, if_neg hf, List.append_nil]
        have HE := Lib.hid e
        clear e
        go_wp2
        go_ret
        refine ⟨v, rfl, ?_, HB.out⟩
        rw [HE.out]
        exact ownsRow_base HO.out (by omega)


theorem size_extract (s : ByteArray) (f : Nat) (h : f ≤ s.size) : (s.extract f s.size).size = s.size - f := by
  simp [ByteArray.size_extract]
set_option maxHeartbeats 400000 in
theorem spec_splitLines (s : ByteArray) (w : World) (hs : s.size + 2 ≤ 8796093022208) :
    Calls Try.prog 18 #[.string s] w fun e w' => ∃ v, e = .returned v ∧ w'.ownsRow w.heap.size 9 1 v (lineAll s).length ((lineAll s).map .string) ∧ Below w.heap.size w w' := by
  have HA := Lib.hid (cutTo_bound p10 s s.size)
  go_enter Try.func18, Try.ntmps18
  go_wp2_with fail
  refine (spec_splitAny s ⟨#[10]⟩ _ hs (by decide)).mono ?_
  rintro e w1 ⟨v, rfl, o1, b1⟩
  obtain ⟨hl, ho⟩ := o1
  have hn : (cutAll (hasB ⟨#[10]⟩) s).length = (cutTo p10 s s.size).1.length + 1 := by simp [cutAll, p10]
  rw [hn] at hl ho
  rcases ho with ⟨_, h0⟩ | ⟨g, cap, cur, rfl, hB, hg, h1, h2, h3, h4⟩
  · omega
  · have O1 := Lib.hid (show w1.ownsRow w.heap.size 9 1 (.slice (some ⟨g, 0, none⟩) ((cutTo p10 s s.size).1.length + 1) cap) ((cutTo p10 s s.size).1.length + 1) ((cutAll (hasB ⟨#[10]⟩) s).map .string) from ⟨hl, .inr ⟨g, cap, cur, rfl, hB, hg, h1, h2, h3, h4⟩⟩)
    have hce := World.ownsRow.cellAt O1.out (cutTo p10 s s.size).1.length (by omega)
    have hlast : ((cutAll (hasB ⟨#[10]⟩) s).map Value.string)[(cutTo p10 s s.size).1.length]? = some (.string (s.extract (cutTo p10 s s.size).2 s.size)) := by simp [cutAll, p10]
    rw [hlast] at hce
    have HT := Lib.hid h4
    have HG := Lib.hid hg
    have HL := Lib.hid h3
    clear hlast hl hg h3 h4 hn
    obtain ⟨n, hn⟩ : ∃ n, (cutTo p10 s s.size).1.length = n := ⟨_, rfl⟩
    obtain ⟨f, hf⟩ : ∃ f, (cutTo p10 s s.size).2 = f := ⟨_, rfl⟩
    rw [hn, hf] at HA
    rw [hn] at hce h1 HT ⊢
    rw [hf] at hce
    have HN := Lib.hid hn
    have HF := Lib.hid hf
    clear hn hf
    have h2' := h2
    unfold maxLen at h2
    by_cases hlt : f < s.size
    · have e : lineAll s = cutAll (hasB ⟨#[10]⟩) s := by unfold lineAll cutAll; rw [HF.out, if_pos hlt]; rw [← HF.out]; rfl
      have HE := Lib.hid e
      have hne : (s.extract f s.size).toList.isEmpty = false := by
        have h := Lib.extract_toList s f s.size
        rw [h]
        have : (List.take (s.size - f) (List.drop f s.data.toList)).length = s.size - f := by simp
        cases hx : List.take (s.size - f) (List.drop f s.data.toList) with
        | nil => rw [hx] at this; simp at this; omega
        | cons a b => rfl
      clear e
      go_wp2
      go_ret
      refine ⟨_, rfl, ?_, b1⟩
      have h := O1.out
      rw [HE.out]
      rw [HN.out] at h
      rw [show (cutAll (hasB ⟨#[10]⟩) s).length = n + 1 by simp [cutAll]; exact HN.out]
      exact h
    · have e : lineAll s = (cutTo p10 s s.size).1 := by unfold lineAll; rw [HF.out, if_neg hlt, List.append_nil]
      have HE := Lib.hid e
      have hemp : (s.extract f s.size).toList.isEmpty = true := by
        have h := Lib.extract_toList s f s.size
        rw [h, show s.size - f = 0 by omega]; simp
      clear e
      go_wp2
      go_ret
      refine ⟨_, rfl, ?_, b1⟩
      rw [HE.out, HN.out]
      refine ⟨by simp; exact HN.out, .inr ⟨g, cap, cur, rfl, hB, HG.out, by omega, h2', HL.out, ?_⟩⟩
      have h := HT.out
      have h' := congrArg (List.take n) h
      rw [List.take_take, show min n ((n + 1) * 1) = n by omega] at h'
      rw [Nat.mul_one, h']
      rw [cutAll, List.map_append, List.take_append_of_le_length (by simp; exact Nat.le_of_eq HN.out.symm), List.take_of_length_le (by simp; exact Nat.le_of_eq HN.out)]
      rfl


set_option maxHeartbeats 1000000 in
theorem law_splitLines (s : ByteArray) (hs : s.size ≤ maxLen) (w : World) :
    Calls Try.prog 6 #[.string s] w fun e w' => e = .returned (.bool true) ∧ Below w.heap.size w w' := by
  have hs0 := hs
  unfold maxLen at hs0
  by_cases hl : s.size ≤ 1048576
  · have HL := Lib.hid (lineAll_length s)
    go_enter Try.func6, Try.ntmps6
    go_wp2_with fail
    refine (spec_splitLines s _ (by omega)).mono ?_
    rintro e w1 ⟨v1, rfl, o1, b1⟩
    have O1 := Lib.hid o1
    clear o1
    go_wp2_with fail
    refine (impl_splitLines s _ (by omega)).mono ?_
    rintro e w2 ⟨v2, rfl, o2, b2⟩
    have O2 := Lib.hid o2
    clear o2
    have O1b := Lib.hid (ownsRow_below O1.out b2)
    go_wp2_with fail
    refine (eq_strings _ _ _ _ (ownsRow_row O2.out) (ownsRow_row O1b.out)).mono ?_
    rintro e w3 ⟨rfl, q3, rfl⟩
    go_wp2_with fail
    have hn : 1 + (lineAll s).length ≤ 9223372036854775807 := by have := HL.out; omega
    refine (mark_from v2 _ 1 _ _ _ _ (by simp) (ownsRow_drewN O2.out _) hn).mono ?_
    rintro e w4 ⟨rfl, o4, g4⟩
    have O4 := Lib.hid o4
    have O1c := Lib.hid (ownsRow_grown (ownsRow_drewN O1b.out q3) g4 (fun g g' h1 h2 => by have := (O1.out.lt g h1).2; have := (O2.out.lt g' h2).1; omega))
    have B4 := Lib.hid ((below_drewN' (b1.trans (b2.mono b1.size)) q3).grown g4 (by have := b1.size; have := b2.size; show _ ≤ w2.heap.size; omega) (fun g hg => by have := (O2.out.lt g hg).1; have := b1.size; omega))
    clear o4 g4
    go_wp2_with fail
    refine (held_from v2 _ 1 _ _ (by simp) (ownsRow_row O4.out) hn).mono ?_
    rintro e w5 ⟨rfl, b5⟩
    go_wp2_with fail
    refine (impl_splitLines s _ (by omega)).mono ?_
    rintro e w6 ⟨v6, rfl, o6, b6⟩
    have O6 := Lib.hid o6
    clear o6
    have O1d := Lib.hid (ownsRow_below (ownsRow_below O1c.out b5) b6)
    have O4b := Lib.hid (ownsRow_below (ownsRow_below O4.out b5) b6)
    go_wp2_with fail
    refine (eq_strings _ _ _ _ (ownsRow_row O6.out) (ownsRow_row O1d.out)).mono ?_
    rintro e w7 ⟨rfl, q7, rfl⟩
    go_wp2_with fail
    refine (held_from v2 _ 1 _ _ (by simp) (ownsRow_row (ownsRow_drewN O4b.out q7)) hn).mono ?_
    rintro e w8 ⟨rfl, b8⟩
    have B8 := Lib.hid (((below_drewN' ((B4.out.trans (b5.mono B4.out.size)).trans (b6.mono (Nat.le_trans B4.out.size b5.size))) q7)).trans (b8.mono (Nat.le_trans B4.out.size (Nat.le_trans b5.size b6.size))))
    go_wp2
    go_ret
    exact ⟨rfl, B8.out⟩
  · go_enter Try.func6, Try.ntmps6
    go_wp2
    go_ret
    exact ⟨rfl, Below.refl _ _⟩

end Go.Proofs.Ytmjbnbabhgngpaa
