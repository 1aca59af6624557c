/- A text cut at its first slash; what the text of a fraction reads as. -/
import Derived.Test.YtdajldenjeanhaaGreatDoorRatFmt
import Derived.Test.YtdajldenjeanhaaGreatDoorBigParseLaw
import Derived.Test.YtdajldenjeanhaaGreatDoorParts
import Derived.Lib.IndexLaws
import Derived.Deep.QuietTactic
import Derived.Deep.RegionHeld3
namespace Go.Proofs.YtdajldenjeanhaaGreatDoor
open Go.RowKit Go.WideShapes Go.ChangeShapes
set_option linter.unusedVariables false
set_option linter.unusedSimpArgs false
set_option maxRecDepth 100000

theorem ba_get {s : ByteArray} {k : Nat} (h : k < s.size) : s.data.toList[k]? = some (s[k]'h) := by
  have h' : k < s.data.toList.length := by rw [sz_list]; exact h
  rw [List.getElem?_eq_getElem h']; rfl
def sIx (s : ByteArray) : Int := Lib.indexByte s.data.toList 47
def sQ (s : ByteArray) : Bool := decide (0 ≤ sIx s)
def sI (s : ByteArray) : Nat := (sIx s).toNat
def sTop (s : ByteArray) : ByteArray := if sQ s then s.extract 0 (sI s) else s
def sBot (s : ByteArray) : ByteArray := if sQ s then s.extract (sI s + 1) s.size else ⟨#[49]⟩
theorem sQ_no {s : ByteArray} (h : sQ s = false) : sIx s = -1 ∧ sTop s = s ∧ sBot s = ⟨#[49]⟩ ∧ ∀ k (hk : k < s.size), s[k]'hk ≠ 47 := by
  have h1 : sIx s = -1 := by
    have := Lib.indexByte_ge s.data.toList 47
    unfold sQ sIx at h
    have h2 := of_decide_eq_false h
    unfold sIx; omega
  refine ⟨h1, by unfold sTop; rw [h]; rfl, by unfold sBot; rw [h]; rfl, fun k hk e => ?_⟩
  exact Lib.indexByte_none (c := 47) h1 k (by rw [ba_get hk, e])
theorem sQ_yes {s : ByteArray} (h : sQ s = true) : ∃ hi : sI s < s.size, sIx s = (sI s : Int) ∧ sTop s = s.extract 0 (sI s) ∧ sBot s = s.extract (sI s + 1) s.size ∧ s[sI s]'hi = 47 ∧ ∀ k (hk : k < s.size), k < sI s → s[k]'hk ≠ 47 := by
  have h0 : 0 ≤ sIx s := of_decide_eq_true h
  have h1 : sIx s = (sI s : Int) := by unfold sI; omega
  obtain ⟨h2, h3⟩ := Lib.indexByte_some (c := 47) (o := sI s) h1
  obtain ⟨hl, h4⟩ := List.getElem?_eq_some_iff.1 h2
  have hi : sI s < s.size := by rw [← sz_list]; exact hl
  refine ⟨hi, h1, by unfold sTop; rw [h]; rfl, by unfold sBot; rw [h]; rfl, ?_, fun k hk hki e => ?_⟩
  · have := ba_get hi; rw [h2] at this; exact (Option.some.inj this).symm
  · exact h3 k hki (by rw [ba_get hk, e])

/-! the cut -/
theorem hasB_slash (c : UInt8) : hasB ⟨#[47]⟩ c = decide (c = 47) := by
  unfold hasB
  show ([47] : List UInt8).contains c = _
  by_cases h : c = 47
  · subst h; rfl
  · have hb : (c == 47) = false := beq_eq_false_iff_ne.2 h
    rw [decide_eq_false h]
    simp only [List.contains, List.elem, hb]
theorem cut_none {s : ByteArray} {p : UInt8 → Bool} : ∀ k, k ≤ s.size → (∀ j (hj : j < s.size), j < k → p (s[j]'hj) = false) → cutTo p s k = ([], 0)
  | 0, _, _ => rfl
  | k + 1, hk, h => by rw [cutTo_no (by omega) (h k (by omega) (by omega))]; exact cut_none k (by omega) (fun j hj hjk => h j hj (by omega))
theorem cut_still {s : ByteArray} {p : UInt8 → Bool} {a : Nat} : ∀ k, a ≤ k → k ≤ s.size → (∀ j (hj : j < s.size), a ≤ j → j < k → p (s[j]'hj) = false) → cutTo p s k = cutTo p s a
  | 0, h0, _, _ => by rw [show a = 0 from Nat.le_zero.1 h0]
  | k + 1, h0, hk, h => by
    rcases Nat.lt_or_ge k a with h1 | h1
    · rw [show a = k + 1 by omega]
    · rw [cutTo_no (by omega) (h k (by omega) h1 (by omega))]; exact cut_still k h1 (by omega) (fun j hj h2 h3 => h j hj h2 (by omega))
theorem cut_prefix {s : ByteArray} {p : UInt8 → Bool} {a : Nat} : ∀ k, a ≤ k → k ≤ s.size → ∃ l, (cutTo p s k).1 = (cutTo p s a).1 ++ l
  | 0, h0, _ => ⟨[], by rw [show a = 0 by omega]; simp⟩
  | k + 1, h0, hk => by
    rcases Nat.lt_or_ge k a with h1 | h1
    · exact ⟨[], by rw [show a = k + 1 by omega]; simp⟩
    · obtain ⟨l, hl⟩ := cut_prefix (s := s) (p := p) k h1 (by omega)
      cases hp : p (s[k]'(by omega)) with
      | false => rw [cutTo_no (by omega) hp]; exact ⟨l, hl⟩
      | true => rw [cutTo_yes (by omega) hp, hl]; exact ⟨l ++ [s.extract (cutTo p s k).2 k], by simp⟩
/-- no slash: one part -/
theorem parts_no {s : ByteArray} (h : sQ s = false) : cutAll (hasB ⟨#[47]⟩) s = [s] := by
  unfold cutAll
  rw [cut_none s.size (Nat.le_refl _) (fun j hj _ => by rw [hasB_slash]; exact decide_eq_false ((sQ_no h).2.2.2 j hj))]
  show [] ++ [s.extract 0 s.size] = [s]
  simp
/-- a slash: the part before it, and another -/
theorem parts_yes {s : ByteArray} (h : sQ s = true) : ∃ t l, cutAll (hasB ⟨#[47]⟩) s = sTop s :: t :: l ∧ ((t = sBot s ∧ ∀ k (hk : k < s.size), sI s < k → s[k]'hk ≠ 47) ∨ (sTop s).size + 1 + t.size < s.size ∧ ∃ k, ∃ hk : k < (sBot s).size, (sBot s)[k]'hk = 47) := by
  obtain ⟨hi, h1, h2, h3, h4, h5⟩ := sQ_yes h
  have e1 : cutTo (hasB ⟨#[47]⟩) s (sI s + 1) = ([sTop s], sI s + 1) := by
    rw [cutTo_yes hi (by rw [hasB_slash, h4]; rfl), cut_none (sI s) (by omega) (fun j hj hji => by rw [hasB_slash]; exact decide_eq_false (h5 j hj hji)), h2]
    rfl
  by_cases hm : ∃ k, ∃ hk : k < s.size, sI s < k ∧ s[k]'hk = 47
  · -- the first of them
    have hex : ∃ k, ∃ hk : k < s.size, sI s < k ∧ s[k]'hk = 47 ∧ ∀ j (hj : j < s.size), sI s < j → j < k → s[j]'hj ≠ 47 := by
      obtain ⟨k, hk, hik, hks⟩ := hm
      have : ∀ n k, k ≤ n → ∀ hk : k < s.size, sI s < k → s[k]'hk = 47 → ∃ k, ∃ hk : k < s.size, sI s < k ∧ s[k]'hk = 47 ∧ ∀ j (hj : j < s.size), sI s < j → j < k → s[j]'hj ≠ 47 := by
        intro n
        induction n with
        | zero => intro k h0 hk hik _; omega
        | succ n ih =>
          intro k h0 hk hik hks
          by_cases hh : ∃ j, ∃ hj : j < s.size, sI s < j ∧ j < k ∧ s[j]'hj = 47
          · obtain ⟨j, hj, a1, a2, a3⟩ := hh
            exact ih j (by omega) hj a1 a3
          · exact ⟨k, hk, hik, hks, fun j hj a1 a2 a3 => hh ⟨j, hj, a1, a2, a3⟩⟩
      exact this k k (Nat.le_refl _) hk hik hks
    obtain ⟨k, hk, hik, hks, hmin⟩ := hex
    have e2 : cutTo (hasB ⟨#[47]⟩) s (k + 1) = ([sTop s, s.extract (sI s + 1) k], k + 1) := by
      rw [cutTo_yes hk (by rw [hasB_slash, hks]; rfl), cut_still (a := sI s + 1) k (by omega) (by omega) (fun j hj a1 a2 => by rw [hasB_slash]; exact decide_eq_false (hmin j hj (by omega) a2)), e1]
      rfl
    obtain ⟨l, hl⟩ := cut_prefix (p := hasB ⟨#[47]⟩) (a := k + 1) s.size (by omega) (Nat.le_refl _)
    refine ⟨s.extract (sI s + 1) k, l ++ [s.extract (cutTo (hasB ⟨#[47]⟩) s s.size).2 s.size], ?_, .inr ⟨?_, k - (sI s + 1), ?_, ?_⟩⟩
    · unfold cutAll; rw [hl, e2]; simp
    · rw [h2, ByteArray.size_extract, ByteArray.size_extract]; omega
    · rw [h3, ByteArray.size_extract]; omega
    · have hb : k - (sI s + 1) < (s.extract (sI s + 1) s.size).size := by rw [ByteArray.size_extract]; omega
      have : (s.extract (sI s + 1) s.size)[k - (sI s + 1)]'hb = s[k]'hk := by
        rw [ByteArray.getElem_extract]
        congr 1
        omega
      simp only [h3]
      rw [this]; exact hks
  · refine ⟨sBot s, [], ?_, .inl ⟨rfl, fun k hk hik e => hm ⟨k, hk, hik, e⟩⟩⟩
    unfold cutAll
    rw [cut_still (a := sI s + 1) s.size (by omega) (Nat.le_refl _) (fun j hj a1 a2 => by rw [hasB_slash]; exact decide_eq_false (fun e => hm ⟨j, hj, by omega, e⟩)), e1, h3]
    rfl

/-! what was read is written alike -/
theorem natText_parse {u : ByteArray} (h : numB u = true) : natText (parseL u) = u := by
  obtain ⟨h1, h2, h3⟩ := numB_parts h
  have hd := digB_digs h1
  have hp := digB_pos h1
  have hv : numV u < pw 60 := (nlen_le_iff _ _).1 (dv_nlen hd (by rw [sz_list]; omega))
  rw [parseL_yes h, natText_yes hv]
  show (⟨(Lib.decDigits (dv u.data.toList)).toArray⟩ : ByteArray) = u
  rw [dec_dv _ hd (fun e => by have := sz_list u; rw [e] at this; simp at this; omega) (by rw [sz_list]; exact h3)]
theorem pbOk_numB {t : ByteArray} (h : pbOk t = true) : numB (minT t) = true := by
  cases hn : numB (minT t) with
  | true => rfl
  | false => rw [pbOk_num hn] at h; exact h
theorem bigText_parse {t : ByteArray} (h : pbOk t = true) : bigText (pbB t) (pbL t) = t := by
  have hn := pbOk_numB h
  have hb := bigOk_parse hn
  rw [h] at hb
  rw [(pb_yes h).1, (pb_yes h).2]
  cases hm : minB t with
  | false => rw [hm] at hb; rw [bigText_plain hb, natText_parse hn, minT_no hm]
  | true =>
    rw [hm] at hb
    rw [bigText_neg hb, natText_parse hn, minT_yes hm]
    rcases min_cases t with ⟨_, h0⟩ | ⟨h0, c, _, ⟨_, _, he⟩ | ⟨_, hf, _⟩⟩
    · rw [hm] at h0; cases h0
    · rw [← he]
      apply ByteArray.ext
      rw [ByteArray.data_append, ByteArray.data_extract, ByteArray.data_extract]
      apply Array.ext'
      have hz := sz_list t
      simp only [Array.toList_append, Array.toList_extract, List.extract]
      rw [Nat.sub_zero, List.drop_zero, List.take_of_length_le (i := t.size - 1) (by rw [List.length_drop]; omega), List.take_append_drop]
    · rw [hm] at hf; cases hf
theorem pbOk_size {t : ByteArray} (h : pbOk t = true) : 0 < t.size := by
  have h1 := digB_pos (numB_parts (pbOk_numB h)).1
  have := minT_size t
  omega
theorem numB_slash {u : ByteArray} {k : Nat} (hk : k < u.size) (h : u[k]'hk = 47) : numB u = false := by
  cases hn : numB u with
  | false => rfl
  | true =>
    have h1 := dig_in (c := 47) (numB_parts hn).1 hk (by rw [h]; rfl)
    omega
/-- the answer of ParseRat -/
def prOk (s : ByteArray) : Bool := pbOk (sTop s) && numB (sBot s) && ratOk (pbB (sTop s)) (pbL (sTop s)) (parseL (sBot s)) && !(sQ s && decide (numV (sBot s) = 1))
def prB (s : ByteArray) : Bool := prOk s && pbB (sTop s)
def prZ (s : ByteArray) : List Int := if prOk s then pbL (sTop s) else []
def prD (s : ByteArray) : List Int := if prOk s then parseL (sBot s) else []
theorem pr_no {s : ByteArray} (h : prOk s = false) : prB s = false ∧ prZ s = [] ∧ prD s = [] := by unfold prB prZ prD; rw [h]; exact ⟨rfl, rfl, rfl⟩
theorem pr_yes {s : ByteArray} (h : prOk s = true) : prB s = pbB (sTop s) ∧ prZ s = pbL (sTop s) ∧ prD s = parseL (sBot s) := by unfold prB prZ prD; rw [h]; exact ⟨rfl, rfl, rfl⟩
theorem prZ_len (s : ByteArray) : (prZ s).length ≤ 1000 := by
  unfold prZ; split
  · exact pbL_len _
  · simp
theorem prD_len (s : ByteArray) : (prD s).length ≤ 1000 := by
  unfold prD; split
  · exact parseL_len _
  · simp
theorem one_num : numB ⟨#[49]⟩ = true ∧ numV ⟨#[49]⟩ = 1 := by
  constructor
  · decide
  · decide

set_option maxRecDepth 100000 in
set_option maxHeartbeats 1000000 in
theorem impl_cut (s : ByteArray) (w : World) (hs : s.size ≤ 1048576) :
    Calls Tryz.prog 46 #[.string s, .string ⟨#[47]⟩] w fun e w' => e = .returned (.tuple #[.string (sTop s), .string (if sQ s then sBot s else ⟨#[]⟩), .bool (sQ s)]) ∧ Below w.heap.size w w' := by
  have K := Lib.hid (fun W => Tryz.stringslite_Index_one s 47 W)
  have L0 : Calls Tryz.prog 62 #[.string s, .string ⟨#[47]⟩] w fun e w' => e = .returned (.tuple #[.string (sTop s), .string (if sQ s then sBot s else ⟨#[]⟩), .bool (sQ s)]) ∧ Below w.heap.size w w' := by
    cases hq : sQ s with
    | false =>
      obtain ⟨h1, h2, h3, _⟩ := sQ_no hq
      have K' := K.out
      have h1' : Lib.indexByte s.data.toList 47 = -1 := h1
      rw [h1'] at K'
      replace K := Lib.hid K'
      rw [h2]
      clear h1 h1' h2 h3 K' hq
      go_enter Tryz.func62, Tryz.ntmps62
      go_wp2_with fail
      refine (K.out _).mono ?_
      rintro e w' ⟨rfl, h9⟩
      replace h9 := h9.symm
      subst h9
      go_wp2
      go_ret3
      exact ⟨rfl, Below.refl _ _⟩
    | true =>
      obtain ⟨hi, h1, h2, h3, _⟩ := sQ_yes hq
      have K' := K.out
      have h1' : Lib.indexByte s.data.toList 47 = (sI s : Int) := h1
      rw [h1'] at K'
      replace K := Lib.hid K'
      rw [h2, h3]
      obtain ⟨i, hii⟩ : ∃ i, sI s = i := ⟨_, rfl⟩
      rw [hii] at K hi ⊢
      clear h1 h1' h2 h3 K' hq hii
      have c1 : (0 : Int) ≤ (i : Int) := by omega
      have c2 : (i : Int) ≤ (s.size : Int) := by omega
      have c3 : (0 : Int) ≤ (i : Int) + 1 := by omega
      have c4 : (i : Int) + 1 ≤ (s.size : Int) := by omega
      have c5 : (i : Int) + 1 ≤ 9223372036854775807 := by omega
      have c6 : wrap64 ((i : Int) + 1) = (i : Int) + 1 := by unfold wrap64; omega
      have c7 : IntKind.i64.wrap ((i : Int) + 1) = (i : Int) + 1 := by rw [IntKind.wrap_i64]; omega
      go_enter Tryz.func62, Tryz.ntmps62
      go_wp2_with fail
      refine (K.out _).mono ?_
      rintro e w' ⟨rfl, h9⟩
      replace h9 := h9.symm
      subst h9
      go_wp2
      go_region_held3 (fun _ => True) (exact trivial) (first | fail)
      clear c1 c2 c3 c4 c5 c6 c7
      go_wp2
      go_ret3
      exact ⟨rfl, (Below.refl _ _).drew⟩
  obtain ⟨bt, hbt⟩ : ∃ t, (if sQ s then sBot s else ⟨#[]⟩) = t := ⟨_, rfl⟩
  rw [hbt] at L0 ⊢
  clear hbt
  have L1 := Lib.hid L0
  clear L0 K
  go_enter Tryz.func46, Tryz.ntmps46
  go_wp2_with fail
  refine L1.out.mono ?_
  rintro e w1 ⟨rfl, b1⟩
  go_wp2
  go_ret3
  exact ⟨rfl, b1⟩

end Go.Proofs.YtdajldenjeanhaaGreatDoor
