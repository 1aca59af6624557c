/- SplitLines of the program and of the model both give the lines of a string without their newlines; a last piece that is empty is no line. -/
import Derived.Test.YtmjbnbabhgngpaaDoorLawSplit
import Derived.WalkSmall
namespace Go.Proofs.YtmjbnbabhgngpaaDoor
open Go.RowKit

theorem decode_span (s : ByteArray) (i j : Nat) (h1 : 1 ≤ j) (h2 : j < (Utf8.decode s i).2) : i + j < s.size ∧ 128 ≤ (s.get! (i + j)).toNat := by
  have key : ∀ k, (i + k < s.size && (s.get! (i + k)).toNat / 64 == 2) = true → i + k < s.size ∧ 128 ≤ (s.get! (i + k)).toNat := by
    intro k h
    simp at h
    omega
  unfold Utf8.decode at h2
  simp only at h2
  repeat' split at h2
  all_goals simp only at h2
  all_goals first
    | omega
    | (rename_i hc _
       simp only [Bool.and_eq_true] at hc
       have : j = 1 ∨ j = 2 ∨ j = 3 := by omega
       rcases this with rfl | rfl | rfl
       all_goals first | omega | (apply key; simp only [Bool.and_eq_true]; first | exact hc.2 | exact hc.1.2 | exact hc.1.1.2))


def p10 : UInt8 → Bool := hasB ⟨#[10]⟩
theorem p10_yes {c : UInt8} (h : c.toNat = 10) : p10 c = true := by
  obtain rfl : c = 10 := UInt8.toNat_inj.1 h
  rfl
theorem p10_no {c : UInt8} (h : c.toNat ≠ 10) : p10 c = false := by
  unfold p10 hasB
  rw [Bool.eq_false_iff]
  intro h'
  rw [List.contains_iff_mem] at h'
  simp at h'
  subst h'
  exact h rfl
theorem get_eq (s : ByteArray) (i : Nat) (h : i < s.size) : s.get! i = s[i]'h := by
  show s.get! i = _
  simp [ByteArray.get!, getElem!_pos, h]
  rfl
theorem cutTo_skip (s : ByteArray) (p : Nat) : ∀ d, (∀ j, 1 ≤ j → j < d + 1 → p + j < s.size ∧ 128 ≤ (s.get! (p + j)).toNat) → cutTo p10 s (p + 1 + d) = cutTo p10 s (p + 1)
  | 0, _ => rfl
  | d + 1, h => by
    have ih := cutTo_skip s p d (fun j h1 h2 => h j h1 (by omega))
    have := h (d + 1) (by omega) (by omega)
    rw [show p + 1 + (d + 1) = (p + 1 + d) + 1 by omega, cutTo_no (k := p + 1 + d) (by omega) (p10_no (by
      have e := get_eq s (p + 1 + d) (by omega)
      rw [← e, show p + 1 + d = p + (d + 1) by omega]; omega)), ih]
/-- what one rune more does to the pieces -/
theorem next_rune (s : ByteArray) (p : Nat) (hp : p < s.size) : 1 ≤ (Utf8.decode s p).2 ∧ p + (Utf8.decode s p).2 ≤ s.size ∧
    ((Utf8.decode s p).1 = 10 → (Utf8.decode s p).2 = 1 ∧ cutTo p10 s (p + (Utf8.decode s p).2) = ((cutTo p10 s p).1 ++ [s.extract (cutTo p10 s p).2 p], p + 1)) ∧
    ((Utf8.decode s p).1 ≠ 10 → cutTo p10 s (p + (Utf8.decode s p).2) = cutTo p10 s p) := by
  have hw := Lib.decode_width_pos s p hp
  have hsp := decode_span s p
  have hb := decode_byte s p hp
  refine ⟨hw, ?_, ?_, ?_⟩
  · by_cases e : (Utf8.decode s p).2 = 1
    · omega
    · have := (hsp ((Utf8.decode s p).2 - 1) (by omega) (by omega)).1
      omega
  · intro h
    by_cases ha : (s[p]'hp).toNat < 128
    · have e := hb.1 ha
      rw [e] at h ⊢
      exact ⟨rfl, cutTo_yes hp (p10_yes h)⟩
    · have := hb.2 (by omega)
      omega
  · intro h
    have h10 : (s[p]'hp).toNat ≠ 10 := fun h' => by
      have e := hb.1 (by omega)
      rw [e] at h
      exact h h'
    have := cutTo_skip s p ((Utf8.decode s p).2 - 1) (fun j h1 h2 => hsp j h1 (by omega))
    rw [show p + 1 + ((Utf8.decode s p).2 - 1) = p + (Utf8.decode s p).2 by omega] at this
    rw [this, cutTo_no hp (p10_no h10)]
def lineAll (s : ByteArray) : List ByteArray := (cutTo p10 s s.size).1 ++ (if (cutTo p10 s s.size).2 < s.size then [s.extract (cutTo p10 s s.size).2 s.size] else [])
theorem lineAll_length (s : ByteArray) : (lineAll s).length ≤ s.size + 1 := by
  have := cutTo_bound p10 s s.size
  unfold lineAll
  split <;> simp <;> omega

set_option maxHeartbeats 400000 in
theorem impl_splitLines (s : ByteArray) (w : World) (hs : s.size + 2 ≤ 8796093022208) :
    Calls Tryd.prog 13 #[.string s] w fun e w' => ∃ v, e = .returned v ∧ w'.ownsRow w.heap.size 9 1 v (lineAll s).length ((lineAll s).map .string) ∧ Below w.heap.size w w' := by
  have hC := fun k => cutTo_bound p10 s k
  have HC := Lib.hid hC
  clear hC
  have hk0 := World.iter_heap w s 0
  have hb0 : Below w.heap.size w (w.iter s 0) := (Below.refl _ w).alloc (Nat.le_refl _) _
  have HK0 := Lib.hid hk0
  clear hk0
  go_enter Tryd.func13, Tryd.ntmps13
  go_wp2
  go_loopw [3, 4, 5, 6] (fun ov fv _ _ wr => ∃ (pos f : Nat), pos ≤ s.size ∧ fv = .int .i64 f ∧ f ≤ pos ∧ Hid (wr.heap[w.heap.size]? = some (.stringIter s pos)) ∧ Hid (f = (cutTo p10 s pos).2) ∧ Hid (wr.ownsRow (w.heap.size + 1) 9 1 ov (cutTo p10 s pos).1.length ((cutTo p10 s pos).1.map .string)) ∧ Hid (Below w.heap.size w wr)) (fun _ _ _ _ wr => s.size - wr.iterPos w.heap.size)
  case atStart => exact ⟨0, 0, Nat.zero_le _, rfl, Nat.le_refl _, HK0.out, rfl, World.ownsRow_nil _ _ _ _, hb0⟩
  case round =>
    obtain ⟨pos, f, hk, rfl, hfk, HK, HF, HO, HB⟩ := hrel
    obtain ⟨v, rfl⟩ : ∃ v, v = u3 := ⟨_, rfl⟩
    have HA := Lib.hid (HC.out pos)
    have hc1 : (cutTo p10 s pos).1.length + 1 ≤ 8796093022208 := by have := HA.out; omega
    have hwk : w.heap.size < wr.heap.size := (Array.getElem?_eq_some_iff.1 HK.out).1
    by_cases hp : pos < s.size
    · have HN := Lib.hid (next_rune s pos hp)
      have hle := decode_le s pos
      have hnx : ∀ ty, (Instr.next (.pointer (some ⟨w.heap.size, 0, none⟩)) true ty).run Tryd.prog wr = _ := fun ty => Lib.run_next_any_at wr w.heap.size s pos ty HK.out hp
      have HP := Lib.hid (show wr.iterPos w.heap.size = pos by simp [World.iterPos, HK.out])
      have HK1 := Lib.hid (Lib.iterAt_heap wr w.heap.size s pos (pos + (Utf8.decode s pos).2) HK.out)
      have HB1 := Lib.hid (Lib.below_iterAt HB.out (Nat.le_refl _) s (pos + (Utf8.decode s pos).2))
      have HO1 := Lib.hid (ownsRow_iterAt HO.out (Nat.lt_succ_self _) s (pos + (Utf8.decode s pos).2))
      have hsz : (wr.iterAt w.heap.size s (pos + (Utf8.decode s pos).2)).heap.size = wr.heap.size := Lib.iterAt_size _ _ _ _
      generalize wr.iterAt w.heap.size s (pos + (Utf8.decode s pos).2) = W1 at hnx HK1 HB1 HO1 hsz
      have hc2 : ∀ o, w.heap.size + 1 ≤ (W1.alloc o).heap.size := fun o => by simp; omega
      clear hsz
      by_cases h10 : (Utf8.decode s pos).1 = 10
      · have HR := Lib.hid (HN.out.2.2.1 h10)
        have h10b : (((Utf8.decode s pos).1 : Int) == 10) = true := by simp; omega
        clear h10
        go_wp2_with (at_builtin; refine append_str rfl _ _ rfl (w.heap.size + 1) _ _ _ (s.extract f pos) ⟨W1.heap.size, 0, none⟩ rfl (HO1.out.alloc _) rfl (cell_one_new _ _ _) hc1 (hc2 _) ?_; intro v' w1 h1 hg1)
        go_roundw
        case rel =>
          have h := HR.out.2
          refine ⟨pos + (Utf8.decode s pos).2, pos + 1, HN.out.2.1, by go_num, by have := HN.out.1; omega, ?_, by rw [h]; rfl, ?_, (HB1.out.alloc HB1.out.size _).grown hg1 (by have := hc2 (Obj.cells #[Value.string (s.extract f pos)] 9); omega) (fun g hg => by have := (HO1.out.lt g hg).1; omega)⟩
          · exact (hg1.block w.heap.size (by have := hc2 (Obj.cells #[Value.string (s.extract f pos)] 9); omega) (fun e => by have := (HO1.out.lt _ e.symm).1; omega)).trans ((Below.heap_alloc _ _ _ (by have := HB1.out.size; have := (Array.getElem?_eq_some_iff.1 HK1.out).1; omega)).trans HK1.out)
          · rw [h, ← HF.out]
            unfold Hid
            simpa using h1
        case measure =>
          have hk2 : w1.heap[w.heap.size]? = some (.stringIter s (pos + (Utf8.decode s pos).2)) := (hg1.block w.heap.size (by have := hc2 (Obj.cells #[Value.string (s.extract f pos)] 9); omega) (fun e => by have := (HO1.out.lt _ e.symm).1; omega)).trans ((Below.heap_alloc _ _ _ (by have := (Array.getElem?_eq_some_iff.1 HK1.out).1; omega)).trans HK1.out)
          have : w1.iterPos w.heap.size = pos + (Utf8.decode s pos).2 := by simp [World.iterPos, hk2]
          rw [this, HP.out]
          have := HN.out.1
          omega
      · have HR := Lib.hid (HN.out.2.2.2 h10)
        have h10b : (((Utf8.decode s pos).1 : Int) == 10) = false := by simp; omega
        clear h10
        go_wp2
        go_roundw
        case rel =>
          have h := HR.out
          exact ⟨pos + (Utf8.decode s pos).2, f, HN.out.2.1, rfl, by omega, HK1.out, by rw [h]; exact HF, by rw [h]; exact HO1.out, HB1.out⟩
        case measure =>
          have : W1.iterPos w.heap.size = pos + (Utf8.decode s pos).2 := by simp [World.iterPos, HK1.out]
          rw [this, HP.out]
          have := HN.out.1
          omega
    · obtain rfl : pos = s.size := by omega
      have hnx : ∀ ty, (Instr.next (.pointer (some ⟨w.heap.size, 0, none⟩)) true ty).run Tryd.prog wr = _ := fun ty => Lib.run_next_end_at wr w.heap.size s s.size ty HK.out hp
      have hc2 : ∀ o, w.heap.size + 1 ≤ (wr.alloc o).heap.size := fun o => by simp; omega
      by_cases hf : f < s.size
      · have e : lineAll s = (cutTo p10 s s.size).1 ++ [s.extract f s.size] := by unfold lineAll; rw [← HF.out, if_pos hf]
        have HE := Lib.hid e
        clear e
        go_wp2_with (at_builtin; refine append_str rfl _ _ rfl (w.heap.size + 1) _ _ _ (s.extract f s.size) ⟨wr.heap.size, 0, none⟩ rfl (HO.out.alloc _) rfl (cell_one_new _ _ _) hc1 (hc2 _) ?_; intro v' w1 h1 hg1)
        go_ret
        refine ⟨v', rfl, ?_, (HB.out.alloc HB.out.size _).grown hg1 (by have := hc2 (Obj.cells #[Value.string (s.extract f s.size)] 9); omega) (fun g hg => by have := (HO.out.lt g hg).1; omega)⟩
        rw [HE.out]
        refine ownsRow_base (B := w.heap.size + 1) ?_ (by omega)
        simpa using h1
      · have e : lineAll s = (cutTo p10 s s.size).1 := by unfold lineAll; rw [← HF.out, if_neg hf, List.append_nil]
        have HE := Lib.hid e
        clear e
        go_wp2
        go_ret
        refine ⟨v, rfl, ?_, HB.out⟩
        rw [HE.out]
        exact ownsRow_base HO.out (by omega)


theorem size_extract (s : ByteArray) (f : Nat) (h : f ≤ s.size) : (s.extract f s.size).size = s.size - f := by
  simp [ByteArray.size_extract]
end Go.Proofs.YtmjbnbabhgngpaaDoor
