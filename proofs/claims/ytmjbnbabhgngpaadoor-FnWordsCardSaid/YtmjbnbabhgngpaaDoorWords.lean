/- FnWords: integers are recovered from their text, and strings from their parts. -/
import Derived.Test.YtmjbnbabhgngpaaDoorParse
import Derived.Test.YtmjbnbabhgngpaaDoorName
import Derived.Test.YtmjbnbabhgngpaaDoorLines
import Derived.Test.YtmjbnbabhgngpaaDoorJoin2
import Derived.Test.YtmjbnbabhgngpaaDoorCursor
import Derived.ProofKit
import Derived.OpenShut
namespace Go.Proofs.YtmjbnbabhgngpaaDoor
open Go.RowKit Go.WideShapes Go.ChangeShapes

def pieces (p : UInt8 → Bool) (s : ByteArray) (k : Nat) : List (List UInt8) := ((cutTo p s k).1 ++ [s.extract (cutTo p s k).2 k]).map (·.data.toList)
theorem extract_succ (s : ByteArray) (f k : Nat) (hf : f ≤ k) (hk : k < s.size) : (s.extract f (k + 1)).data.toList = (s.extract f k).data.toList ++ [s[k]'hk] := by
  rw [Lib.extract_data, Lib.extract_data, show k + 1 - f = (k - f) + 1 by omega, List.take_succ_eq_append_getElem (by simp; have : s.data.size = s.size := rfl; omega)]
  congr 1
  simp only [List.getElem_drop, Array.getElem_toList]
  congr 1
  have : f + (k - f) = k := by omega
  simp only [this]
  rfl
theorem pieces_join (s : ByteArray) (sep : UInt8) : ∀ k, k ≤ s.size → Lib.join (pieces (hasB ⟨#[sep]⟩) s k) [sep] = s.data.toList.take k
  | 0, _ => by
    simp only [pieces, cutTo, List.nil_append, List.map_cons, List.map_nil, Lib.join_one]
    rw [Lib.extract_data]; simp
  | k + 1, hk => by
    have ih := pieces_join s sep k (by omega)
    have hkk : k < s.size := by omega
    have hb := (cutTo_bound (hasB ⟨#[sep]⟩) s k).1
    have ht : s.data.toList.take (k + 1) = s.data.toList.take k ++ [s[k]'hkk] := by
      rw [List.take_succ_eq_append_getElem (by simpa using hkk)]
      simp only [Array.getElem_toList]
      rfl
    by_cases hp : hasB ⟨#[sep]⟩ (s[k]'hkk) = true
    · have hs : s[k]'hkk = sep := by
        unfold hasB at hp
        simpa using hp
      have he : (s.extract (k + 1) (k + 1)).data.toList = [] := by rw [Lib.extract_data]; simp
      unfold pieces at ih ⊢
      rw [cutTo_yes hkk hp]
      simp only
      rw [List.map_append (l₂ := [s.extract (k + 1) (k + 1)]), List.map_cons, List.map_nil, he, join_snoc _ _ _ (by simp), ih, ht, hs, List.append_nil]
    · have hp' : hasB ⟨#[sep]⟩ (s[k]'hkk) = false := by simpa using hp
      unfold pieces at ih ⊢
      rw [cutTo_no hkk hp']
      rw [List.map_append, List.map_cons, List.map_nil, extract_succ s _ k hb hkk, ht, ← ih, List.map_append, List.map_cons, List.map_nil]
      by_cases hx : (cutTo (hasB ⟨#[sep]⟩) s k).1 = []
      · rw [hx]; simp only [List.map_nil, List.nil_append, Lib.join_one]
      · rw [join_snoc _ _ _ (by simpa using hx), join_snoc _ _ _ (by simpa using hx)]
        simp
theorem joined_back (s : ByteArray) (sep : UInt8) : (⟨(joinK (cutAll (hasB ⟨#[sep]⟩) s) ⟨#[sep]⟩ (cutAll (hasB ⟨#[sep]⟩) s).length).toArray⟩ : ByteArray) = s := by
  have h := pieces_join s sep s.size (Nat.le_refl _)
  rw [joinK_all]
  have e : (cutAll (hasB ⟨#[sep]⟩) s).map (·.data.toList) = pieces (hasB ⟨#[sep]⟩) s s.size := rfl
  rw [e]
  have h2 : Lib.join (pieces (hasB ⟨#[sep]⟩) s s.size) (⟨#[sep]⟩ : ByteArray).data.toList = s.data.toList := by
    have : (⟨#[sep]⟩ : ByteArray).data.toList = [sep] := rfl
    rw [this, h, List.take_of_length_le (by simp)]
  rw [h2]
theorem joined_len (s : ByteArray) (hs : s.size ≤ 100) : (joinK (cutAll (hasB ⟨#[32]⟩) s) ⟨#[32]⟩ (cutAll (hasB ⟨#[32]⟩) s).length).length ≤ 100 := by
  have h := congrArg (fun b : ByteArray => b.data.toList.length) (joined_back s 32)
  simp only at h
  have h2 : s.data.toList.length = s.size := by simp
  rw [h2] at h
  omega
theorem name_x1 : nameB ⟨#[120, 49]⟩ = true := by
  unfold nameB
  refine @decide_eq_true _ (Classical.propDecidable _) ⟨fun j hj hj2 => ?_, by decide, by decide⟩
  have hj' : j < 2 := hj2
  have : j = 0 ∨ j = 1 := by omega
  rcases this with rfl | rfl
  · exact .inl (show 97 ≤ (120 : UInt8).toNat ∧ (120 : UInt8).toNat ≤ 122 by decide)
  · exact .inr ⟨by decide, show 48 ≤ (49 : UInt8).toNat ∧ (49 : UInt8).toNat ≤ 57 by decide⟩
theorem lines_ab : (lineAll ⟨#[97, 10, 98, 10]⟩).length = 2 := by decide +kernel

/-- a []byte that came in, as a row -/
theorem bytes_in {H : Type} {enc : TypeId × Value → H} {W : World} {a : Option Addr} {l c : Nat} {d : DataW H} {p : List MemPlace}
    (h : DataW.Trod enc Tryd.prog W 0 (fun _ => true) true 22 (Value.slice a l c) d p) : ∃ bs, RowOf u8V W (.slice a l c) bs ∧ True := by
  obtain ⟨fuel, hf⟩ := h
  rcases open_ints Tryd.underlying22 Tryd.underlying5 (by kernel_rfl) hf with ⟨hcs, _⟩ | ⟨x, l', c', zs, hcs, _, hl, hm, hz, _, hcell, hwz⟩
  · simp [Value.cells] at hcs
    obtain ⟨rfl, rfl, rfl⟩ := hcs
    exact ⟨[], ⟨none, 0, rfl, by simp, by unfold maxLen; omega, fun i hi => by simp at hi⟩, trivial⟩
  · simp [Value.cells] at hcs
    obtain ⟨rfl, rfl, rfl⟩ := hcs
    have hz' : zs.length = c := by simpa using hz
    have hlt : ((zs.take l).map (fun z => UInt8.ofNat z.toNat)).length = l := by simp; omega
    refine ⟨(zs.take l).map (fun z => UInt8.ofNat z.toNat), ⟨some x, c, by rw [hlt], by omega, hm, fun i hi => ?_⟩, trivial⟩
    have hi' : i < zs.length := by omega
    obtain ⟨b, o, spot⟩ := x
    have h0 := hcell 0 (by omega)
    have hspot : spot = none := by simpa [Addr.add] using World.cell?_spot h0
    subst hspot
    refine ⟨b, o, rfl, ?_⟩
    have hc := hcell i hi'
    rw [add_plain] at hc
    rw [hc]
    have hw := hwz (zs[i]'hi') (List.getElem_mem hi')
    have hb : 0 ≤ zs[i]'hi' ∧ zs[i]'hi' ≤ 255 := by simpa [Lit.wf, IntKind.min, IntKind.max, IntKind.signed, IntKind.bits] using hw
    have hg : zs.getD i 0 = zs[i]'hi' := by simp [List.getD, hi']
    rw [hg]
    unfold u8V
    simp only [List.getElem_map, List.getElem_take, UInt8.toNat_ofNat']
    congr 2
    omega

theorem rowOf_below' {α : Type} {f : α → Value} {w w' : World} {v : Value} {xs : List α} (h : RowOf f w v xs) (hb : Below w.heap.size w w') : RowOf f w' v xs := by
  obtain ⟨a, c, h1, h2, h3, h4⟩ := h
  refine ⟨a, c, h1, h2, h3, fun i hi => ?_⟩
  obtain ⟨b, o, e, hx⟩ := h4 i hi
  exact ⟨b, o, e, (hb.cell (p := ⟨b, o + i, none⟩) (by have := World.block_lt_of_cell? w _ hx; simpa using this)).trans hx⟩

set_option maxHeartbeats 2000000 in
theorem law_words (w : World) (htab : Lib.TabIs Tryd.prog w "internal/strconv.uint64pow10" .u64 Lib.pow10Tab) (v : Value) (bs : List UInt8) (hrow : RowOf u8V w v bs) (_ : True) :
    Calls Tryd.prog 3 #[v] w fun e w' => e = .returned (.bool true) ∧ Below w.heap.size w w' := by
  have HR := Lib.hid hrow
  obtain ⟨a, c, rfl, hc, hm, hr⟩ := hrow
  clear hr
  unfold maxLen at hm
  obtain ⟨n, hn⟩ : ∃ n, bs.length = n := ⟨_, rfl⟩
  rw [hn] at hc HR ⊢
  have HN := Lib.hid hn
  clear hn
  have HT := Lib.hid htab
  clear htab
  by_cases hl : n ≤ 1048576
  · go_enter Tryd.func3, Tryd.ntmps3
    go_wp2_with fail
    refine (make_num _ bs 1 _ HR.out (by rw [HN.out]; exact hl) (by omega)).mono ?_
    rintro e w1 ⟨⟨x, rfl, hx0, hx1⟩, hb1⟩
    go_wp2_with fail
    refine (impl_format (x - 30000) w1 (by omega) (by omega) (tab_below hb1 HT.out)).mono ?_
    rintro e w2 ⟨rfl, hb2⟩
    have B2 := Lib.hid (hb1.trans (hb2.mono hb1.size))
    clear hb1 hb2
    go_wp2_with fail
    have hlen := Lib.itoa_length_le (x - 30000) (by omega) (by omega)
    refine (impl_parse_yes ⟨(Lib.itoa (x - 30000)).toArray⟩ (x - 30000) w2 (by show (Lib.itoa (x - 30000)).toArray.size ≤ _; simp; omega) ⟨by omega, by omega, rfl⟩ (tab_below B2.out HT.out)).mono ?_
    rintro e w3 ⟨rfl, hb3⟩
    have B3 := Lib.hid (B2.out.trans (hb3.mono B2.out.size))
    clear hb3 hlen
    go_wp2_with fail
    refine (make_text _ bs _ (rowOf_below' HR.out B3.out) (by rw [HN.out]; exact hl)).mono ?_
    rintro e w4 ⟨⟨s, rfl, hs⟩, hb4⟩
    have B4 := Lib.hid (B3.out.trans (hb4.mono B3.out.size))
    clear hb4
    go_wp2_with fail
    refine (impl_splitAny s ⟨#[32]⟩ _ (by omega) (by decide)).mono ?_
    rintro e w5 ⟨v5, rfl, o5, hb5⟩
    have O5 := Lib.hid o5
    have B5 := Lib.hid (B4.out.trans (hb5.mono B4.out.size))
    have HL := Lib.hid (cutAll_length (hasB ⟨#[32]⟩) s)
    clear o5 hb5
    go_wp2_with fail
    have hjb := joined_back s 32
    have hjl : (joinK (cutAll (hasB ⟨#[32]⟩) s) ⟨#[32]⟩ (cutAll (hasB ⟨#[32]⟩) s).length).length ≤ 100 := by
      exact joined_len s hs
    refine (impl_join v5 _ ⟨#[32]⟩ _ (ownsRow_row O5.out) (by omega) (by have := HL.out; omega)).mono ?_
    rintro e w6 ⟨rfl, hb6⟩
    have B6 := Lib.hid (B5.out.trans (hb6.mono B5.out.size))
    rw [hjb]
    clear hb6 hjb hjl
    go_wp2_with fail
    refine (impl_isName ⟨#[120, 49]⟩ _ (by decide)).mono ?_
    rintro e w7 ⟨rfl, hb7⟩
    have B7 := Lib.hid (B6.out.trans (hb7.mono B6.out.size))
    rw [name_x1]
    clear hb7
    go_wp2_with fail
    refine (impl_splitLines ⟨#[97, 10, 98, 10]⟩ _ (by decide)).mono ?_
    rintro e w8 ⟨v8, rfl, o8, hb8⟩
    have B8 := Lib.hid (B7.out.trans (hb8.mono B7.out.size))
    rw [lines_ab] at o8
    clear hb8
    obtain ⟨_, ho8⟩ := o8
    rcases ho8 with ⟨_, h0⟩ | ⟨g, cap, cur, rfl, _, _, _, _, _, _⟩
    · omega
    · go_wp2
      go_ret
      exact ⟨rfl, B8.out⟩
  · go_enter Tryd.func3, Tryd.ntmps3
    go_wp2
    go_ret
    exact ⟨rfl, Below.refl _ _⟩

end Go.Proofs.YtmjbnbabhgngpaaDoor
