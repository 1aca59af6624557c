/- ParseInt of the program and ParseInt of the model both recover the int whose text a string is, and tell where there is none. -/
import Derived.Test.YtmjbnbabhgngpaaDoorFormat
import Derived.Test.YtmjbnbabhgngpaaDoorParsePlain
import Derived.Lib.AtoiErrMem
namespace Go.Proofs.YtmjbnbabhgngpaaDoor
open Go.RowKit

set_option maxHeartbeats 400000 in
theorem impl_parse_yes (s : ByteArray) (n : Int) (w : World) (hs : s.size ≤ 281474976710656) (h : TextOf s.data.toList n) (htab : Lib.TabIs Tryd.prog w "internal/strconv.uint64pow10" .u64 Lib.pow10Tab) :
    Calls Tryd.prog 7 #[.string s] w fun e w' => e = .returned (.tuple #[.int .i64 n, .bool true]) ∧ Below w.heap.size w w' := by
  have HA := Lib.hid (Tryd.strconv_Atoi_ok s (by omega) n (atoi_text h) w)
  have HF := Lib.hid (fun w1 (hb : Below w.heap.size w w1) => impl_format n w1 h.1 h.2.1 (tab_below hb htab))
  have HS := Lib.hid (show (⟨(Lib.itoa n).toArray⟩ : ByteArray) = s by rw [h.2.2])
  clear h htab
  go_enter Tryd.func7, Tryd.ntmps7
  go_wp2_with fail
  refine HA.out.mono ?_
  rintro e w1 ⟨rfl, hw⟩
  have hb1 : Below w.heap.size w w1 := by
    rcases hw with rfl | ⟨t, rfl⟩
    · exact Below.refl _ _
    · exact Lib.bytesWorld_below _ _ _
  clear hw
  go_wp2_with fail
  refine (HF.out _ hb1).mono ?_
  rintro e w2 ⟨rfl, hb2⟩
  rw [HS.out]
  go_wp2
  go_ret2
  exact ⟨rfl, hb1.trans (hb2.mono hb1.size)⟩

theorem atoi_ends (l : List UInt8) : (∃ v, Lib.atoiAll l = .ok v) ∨ Lib.atoiAll l = Lib.NumEnd.ofOption (none : Option Int) ∨ Lib.atoiAll l = .range := by
  cases h : Lib.atoiAll l
  · exact .inl ⟨_, rfl⟩
  · exact .inr (.inl rfl)
  · exact .inr (.inr rfl)

set_option maxHeartbeats 400000 in
theorem impl_parse_no (s : ByteArray) (w : World) (hs : s.size ≤ 281474976710656) (h : ∀ n, ¬ TextOf s.data.toList n) (htab : Lib.TabIs Tryd.prog w "internal/strconv.uint64pow10" .u64 Lib.pow10Tab)
    (hsyn : ∃ tp p, w.var? Tryd.prog "strconv.ErrSyntax" = some #[.iface tp p]) (hran : ∃ tp p, w.var? Tryd.prog "strconv.ErrRange" = some #[.iface tp p]) :
    Calls Tryd.prog 7 #[.string s] w fun e w' => e = .returned (.tuple #[.int .i64 0, .bool false]) ∧ Below w.heap.size w w' := by
  rcases atoi_ends s.data.toList with ⟨v, ha⟩ | ha | ha
  · skip
    have hb := Lib.atoiAll_bounds ha
    have HA := Lib.hid (Tryd.strconv_Atoi_ok s (by omega) v ha w)
    have HF := Lib.hid (fun w1 (hbl : Below w.heap.size w w1) => impl_format v w1 hb.1 hb.2 (tab_below hbl htab))
    have hq : (Lib.itoa v == s.toList) = false := by
      rw [ByteArray.toList_eq, beq_eq_false_iff_ne]
      exact fun e => h v ⟨hb.1, hb.2, e⟩
    clear ha hb htab
    go_enter Tryd.func7, Tryd.ntmps7
    go_wp2_with fail
    refine HA.out.mono ?_
    rintro e w1 ⟨rfl, hw⟩
    have hb1 : Below w.heap.size w w1 := by
      rcases hw with rfl | ⟨t, rfl⟩
      · exact Below.refl _ _
      · exact Lib.bytesWorld_below _ _ _
    clear hw
    go_wp2_with fail
    refine (HF.out _ hb1).mono ?_
    rintro e w2 ⟨rfl, hb2⟩
    go_wp2
    go_ret2
    exact ⟨rfl, hb1.trans (hb2.mono hb1.size)⟩
  · obtain ⟨tp, p, hv⟩ := hsyn
    have HA := Lib.hid (Tryd.strconv_Atoi_syntax_var s hs ha tp p w hv)
    clear ha hv htab hran h
    go_enter Tryd.func7, Tryd.ntmps7
    go_wp2_with fail
    refine HA.out.mono ?_
    rintro e w1 ⟨N, rfl, _, _, hb1⟩
    go_wp2
    go_ret2
    exact ⟨rfl, hb1⟩
  · obtain ⟨tp, p, hv⟩ := hran
    have HA := Lib.hid (Tryd.strconv_Atoi_range_var s hs ha tp p w hv)
    clear ha hv htab hsyn h
    go_enter Tryd.func7, Tryd.ntmps7
    go_wp2_with fail
    refine HA.out.mono ?_
    rintro e w1 ⟨N, rfl, _, _, hb1⟩
    go_wp2
    go_ret2
    exact ⟨rfl, hb1⟩


theorem text_digits {l : List UInt8} {n : Int} (h : TextOf l n) : ∃ m : Nat, (l = Lib.decDigits m ∧ n = m ∧ m ≤ 9223372036854775807) ∨ (l = 45 :: Lib.decDigits m ∧ n = -(m : Int) ∧ m ≤ 9223372036854775808) := by
  rcases itoa_cases h with ⟨m, h1, h2, h3⟩ | ⟨m, h1, _, h2, h3⟩
  · exact ⟨m, .inl ⟨h2, h1, h3⟩⟩
  · exact ⟨m, .inr ⟨h2, h1, h3⟩⟩
/-- the digits' part of a text -/
def tail45 (neg : Bool) (l : List UInt8) : List UInt8 := if neg then l.tail else l
theorem digB_dig {t : ByteArray} (h : digB t = true) : AllDig t.data.toList := by
  unfold digB at h
  rw [Bool.and_eq_true, List.all_eq_true] at h
  intro c hc
  have := h.1 c hc
  simp only [UInt8.le_iff_toNat_le, Bool.and_eq_true, decide_eq_true_eq] at this
  exact this
theorem digB_dec (n : Nat) : digB ⟨(Lib.decDigits n).toArray⟩ = true := by
  obtain ⟨h1, _, h3⟩ := dec_all n
  unfold digB
  rw [Bool.and_eq_true]
  refine ⟨?_, ?_⟩
  · rw [List.all_eq_true]
    intro c hc
    have := h1 c (by simpa using hc)
    simp only [UInt8.le_iff_toNat_le, Bool.and_eq_true, decide_eq_true_eq]
    exact this
  · have : 0 < (Lib.decDigits n).length := by
      cases hl : Lib.decDigits n with
      | nil => exact absurd hl h3
      | cons a r => simp
    simpa [ByteArray.size] using this
theorem dec_len19 (n : Nat) (h : n ≤ 9223372036854775808) : (Lib.decDigits n).length ≤ 19 := by
  have : ∀ d n, n < 10 ^ (d + 1) → (Lib.decDigits n).length ≤ d + 1 := by
    intro d
    induction d with
    | zero => intro n hn; rw [Lib.decDigits, dif_pos (by simpa using hn)]; simp
    | succ d ih =>
      intro n hn
      by_cases e : n < 10
      · rw [Lib.decDigits, dif_pos e]; simp
      · rw [Lib.decDigits, dif_neg e, List.length_append]
        have := ih (n / 10) (by rw [Nat.pow_succ] at hn; omega)
        simp; omega
  exact this 18 n (by omega)

/-- the loop of ParseInt over the digits t: at the end, or where it breaks off -/
def Upto (t : ByteArray) (k : Nat) (n : Int) : Prop := n = -((dv (t.data.toList.take k) : Nat) : Int) ∧ dv (t.data.toList.take k) ≤ 9223372036854775808


/-- what a text of an int says of its sign neg and its digits t -/
def Link (s t : ByteArray) (neg : Bool) : Prop := ∀ n, TextOf s.data.toList n → ∃ m : Nat, t.data.toList = Lib.decDigits m ∧ n = (if neg then -(m : Int) else m) ∧ m ≤ (if neg then 9223372036854775808 else 9223372036854775807)
def ParseOut (s : ByteArray) (e : Ending) : Prop := ∃ (r : Int) (b : Bool), e = .returned (.tuple #[.int .i64 r, .bool b]) ∧ ((b = true ∧ TextOf s.data.toList r) ∨ (b = false ∧ r = 0 ∧ ∀ n, ¬ TextOf s.data.toList n))
theorem out_no {s : ByteArray} (h : ∀ n, ¬ TextOf s.data.toList n) : ParseOut s (.returned (.tuple #[.int .i64 0, .bool false])) := ⟨0, false, rfl, .inr ⟨rfl, rfl, h⟩⟩
theorem no_digits {s t : ByteArray} {neg : Bool} (h : Link s t neg) (hd : digB t = false) : ∀ n, ¬ TextOf s.data.toList n := fun n hn => by
  obtain ⟨m, e, _⟩ := h n hn
  have e' : t = ⟨(Lib.decDigits m).toArray⟩ := by rw [← e]
  rw [e', digB_dec] at hd
  simp at hd
theorem no_long {s t : ByteArray} {neg : Bool} (h : Link s t neg) (hl : 19 < t.size) : ∀ n, ¬ TextOf s.data.toList n := fun n hn => by
  obtain ⟨m, e, _, hm⟩ := h n hn
  have := dec_len19 m (by cases neg <;> simp at hm <;> omega)
  rw [← e] at this
  simp at this
  omega
theorem no_big {s t : ByteArray} {neg : Bool} (h : Link s t neg) (hl : 9223372036854775808 < dv t.data.toList) : ∀ n, ¬ TextOf s.data.toList n := fun n hn => by
  obtain ⟨m, e, _, hm⟩ := h n hn
  rw [e, (dec_all m).2.1] at hl
  cases neg <;> simp at hm <;> omega
theorem no_edge {s t : ByteArray} (h : Link s t false) (hl : dv t.data.toList = 9223372036854775808) : ∀ n, ¬ TextOf s.data.toList n := fun n hn => by
  obtain ⟨m, e, _, hm⟩ := h n hn
  rw [e, (dec_all m).2.1] at hl
  simp at hm
  omega
theorem no_other {s t : ByteArray} {neg : Bool} {r : Int} (h : Link s t neg) (hr : r = (if neg then -((dv t.data.toList : Nat) : Int) else (dv t.data.toList : Nat))) (hne : ¬ Lib.itoa r = s.data.toList) : ∀ n, ¬ TextOf s.data.toList n := fun n hn => by
  obtain ⟨m, e, e2, _⟩ := h n hn
  rw [e, (dec_all m).2.1, ← e2] at hr
  subst hr
  exact hne hn.2.2
theorem upto_zero (t : ByteArray) : Upto t 0 0 := ⟨rfl, by simp [dv]⟩
theorem dv_next {t : ByteArray} {k c : Nat} (hk : k < t.size) (hc : (t[k]'hk).toNat = c) : dv (t.data.toList.take (k + 1)) = dv (t.data.toList.take k) * 10 + (c - 48) := by
  rw [List.take_succ_eq_append_getElem (by simpa using hk), dv_snoc]
  simp only [Array.getElem_toList]
  rw [show t.data[k].toNat = c from hc]
theorem dig_at {t : ByteArray} {k c : Nat} (h : digB t = true) (hk : k < t.size) (hc : (t[k]'hk).toNat = c) : 48 ≤ c ∧ c ≤ 57 := by
  rw [← hc]
  exact digB_dig h _ (by have : t[k]'hk = t.data[k]'hk := rfl; rw [this]; simp)

theorem edge_yes {m c : Nat} (h48 : 48 ≤ c) (h57 : c ≤ 57) (h : 9223372036854775808 < m * 10 + (c - 48)) : -(m : Int) < (-9223372036854775808 + ((c : Int) - 48)).tdiv 10 := by
  have e : (-9223372036854775808 + ((c : Int) - 48)) = -((9223372036854775808 - (c - 48) : Nat) : Int) := by omega
  rw [e, Int.neg_tdiv, Int.tdiv_eq_ediv_of_nonneg (by omega)]
  omega
theorem edge_no {m c : Nat} (h48 : 48 ≤ c) (h57 : c ≤ 57) (h : ¬ 9223372036854775808 < m * 10 + (c - 48)) : (-9223372036854775808 + ((c : Int) - 48)).tdiv 10 ≤ -(m : Int) := by
  have e : (-9223372036854775808 + ((c : Int) - 48)) = -((9223372036854775808 - (c - 48) : Nat) : Int) := by omega
  rw [e, Int.neg_tdiv, Int.tdiv_eq_ediv_of_nonneg (by omega)]
  omega
theorem edge_val {m c : Nat} (h48 : 48 ≤ c) (h57 : c ≤ 57) (h : m * 10 + (c - 48) ≤ 9223372036854775808) : Value.int IntKind.i64 (wrap64 (wrap64 (-(m : Int) * 10) - ((c : Int) - 48))) = Value.int IntKind.i64 (-((m * 10 + (c - 48) : Nat) : Int)) := by
  rw [IntWalk.wrap64_in (-(m : Int) * 10) ⟨by omega, by omega⟩, IntWalk.wrap64_in _ ⟨by omega, by omega⟩]
  congr 1
  omega
theorem no_empty {s : ByteArray} (h : s.size = 0) : ∀ n, ¬ TextOf s.data.toList n := fun n hn => by
  have e : s.data.toList = [] := by
    have : s.data.toList.length = 0 := by simpa using h
    exact List.eq_nil_of_length_eq_zero this
  obtain ⟨m, h1 | h1⟩ := text_digits hn
  · rw [e] at h1; exact (dec_all m).2.2 h1.1.symm
  · rw [e] at h1; simp at h1
theorem link_neg {s : ByteArray} (hz : 0 < s.size) (h : s[0]'hz = 45) : Link s (s.extract 1 s.size) true := fun n hn => by
  have ht : (s.extract 1 s.size).data.toList = s.data.toList.tail := by
    rw [Lib.extract_data]
    rw [List.take_of_length_le (by simp), ← List.drop_one]
  have h0 : s.data.toList.head? = some 45 := by
    rw [List.head?_eq_getElem?]
    simp only [Array.getElem?_toList]
    rw [← h]
    exact Array.getElem?_eq_getElem (by simpa using hz)
  obtain ⟨m, h1 | h1⟩ := text_digits hn
  · exfalso
    rw [h1.1] at h0
    have hm : (45 : UInt8) ∈ Lib.decDigits m := List.mem_of_head? h0
    have := (dec_all m).1 45 hm
    simp at this
  · exact ⟨m, by rw [ht, h1.1]; rfl, by simpa using h1.2.1, by simpa using h1.2.2⟩
theorem link_plain {s : ByteArray} (hz : 0 < s.size) (h : ¬ s[0]'hz = 45) : Link s s false := fun n hn => by
  obtain ⟨m, h1 | h1⟩ := text_digits hn
  · exact ⟨m, h1.1, by simpa using h1.2.1, by simpa using h1.2.2⟩
  · exfalso
    apply h
    have h0 : s.data.toList.head? = some 45 := by rw [h1.1]; rfl
    rw [List.head?_eq_getElem?] at h0
    simp only [Array.getElem?_toList] at h0
    have := Array.getElem?_eq_getElem (xs := s.data) (i := 0) (by simpa using hz)
    rw [this] at h0
    exact Option.some.inj h0

set_option maxHeartbeats 2000000 in
theorem spec_parse_neg (s : ByteArray) (w : World) (hs : s.size ≤ 281474976710656) (hz : 0 < s.size) (h45 : s[0]'hz = 45) :
    Calls Tryd.prog 15 #[.string s] w fun e w' => ParseOut s e ∧ Below w.heap.size w w' := by
  have hc : ((((s[0]'hz).toNat : Nat) : Int) == 45) = true := by rw [h45]; rfl
  have HL := Lib.hid (link_neg hz h45)
  have hts : (s.extract 1 s.size).size ≤ 281474976710656 := by simp [ByteArray.size_extract]; omega
  clear h45
  go_enter Tryd.func15, Tryd.ntmps15
  go_wp2_with (go_at_call 26; fail)
  generalize s.extract 1 s.size = t at HL hts ⊢
  refine (spec_isDigits t _ (by unfold maxLen; omega)).mono ?_
  rintro e w1 ⟨rfl, rfl⟩
  by_cases hd : digB t = true
  rotate_left
  · have hd' : digB t = false := by simpa using hd
    have HN := Lib.hid (no_digits HL.out hd')
    clear hd
    go_wp2
    go_ret2
    exact ⟨out_no HN.out, Below.refl _ _⟩
  by_cases h19 : 19 < t.size
  · have HN := Lib.hid (no_long HL.out h19)
    go_wp2
    go_ret2
    exact ⟨out_no HN.out, Below.refl _ _⟩
  have HD := Lib.hid hd
  go_wp2
  clear hd
  go_loop [6, 7, 8] (fun nv iv _ => ∃ (k : Nat) (m : Nat), k ≤ t.size ∧ nv = .int .i64 (-(m : Int)) ∧ iv = .int .i64 k ∧ Hid (m = dv (t.data.toList.take k)) ∧ m ≤ 9223372036854775808) (fun _ iv _ => t.size - (intOf iv).toNat)
  case atStart => exact ⟨0, 0, Nat.zero_le _, rfl, rfl, by simp [Hid, dv], by omega⟩
  case round =>
    obtain ⟨k, m, hk, rfl, rfl, HM, hm⟩ := hrel
    by_cases hlt : k < t.size
    · obtain ⟨c, hcx⟩ : ∃ c, (t[k]'hlt).toNat = c := ⟨_, rfl⟩
      have hcd := dig_at HD.out hlt hcx
      have HX := Lib.hid (dv_next hlt hcx)
      obtain ⟨h48, h57⟩ := hcd
      by_cases hov : 9223372036854775808 < m * 10 + (c - 48)
      · have HE := Lib.hid (edge_yes h48 h57 hov)
        have HN := Lib.hid (no_big HL.out (Nat.lt_of_lt_of_le (show 9223372036854775808 < dv (t.data.toList.take (k + 1)) by rw [HX.out, ← HM.out]; exact hov) (dv_take _ _)))
        have hlt2 : -(m : Int) < (-9223372036854775808 + ((c : Int) - 48)).tdiv 10 := HE.out
        clear hov
        go_wp2
        go_ret2
        exact ⟨out_no HN.out, Below.refl _ _⟩
      · have HE := Lib.hid (edge_no h48 h57 hov)
        have HV := Lib.hid (show m * 10 + (c - 48) ≤ 9223372036854775808 by omega)
        have hle2 : (-9223372036854775808 + ((c : Int) - 48)).tdiv 10 ≤ -(m : Int) := HE.out
        clear hov
        go_wp2
        go_round
        case rel => exact ⟨k + 1, m * 10 + (c - 48), by omega, edge_val h48 h57 HV.out, by go_num, by unfold Hid; rw [HX.out, ← HM.out], HV.out⟩
        case measure => simp [intOf]; omega
    · obtain rfl : k = t.size := by omega
      have HM2 := Lib.hid (show m = dv t.data.toList by have := HM.out; rw [List.take_of_length_le (by simp)] at this; exact this)
      have HF := Lib.hid (spec_format (-(m : Int)) w1 (by omega) (by omega))
      have HR := Lib.hid (show (-(m : Int)) = (if true then -((dv t.data.toList : Nat) : Int) else (dv t.data.toList : Nat)) by rw [← HM2.out]; rfl)
      go_wp2_with (go_at_call 14; fail)
      refine HF.out.mono ?_
      rintro e w2 ⟨rfl, hb2⟩
      by_cases he : Lib.itoa (-(m : Int)) = s.data.toList
      · have HT := Lib.hid (show TextOf s.data.toList (-(m : Int)) from ⟨by omega, by omega, he⟩)
        have hq2 : (Lib.itoa (-(m : Int)) == s.toList) = true := by rw [ByteArray.toList_eq]; simpa using he
        clear he
        go_wp2
        go_ret2
        exact ⟨⟨_, true, rfl, .inl ⟨rfl, HT.out⟩⟩, hb2⟩
      · have HN := Lib.hid (no_other HL.out HR.out he)
        have hq2 : (Lib.itoa (-(m : Int)) == s.toList) = false := by rw [ByteArray.toList_eq]; simpa using he
        clear he
        go_wp2
        go_ret2
        exact ⟨out_no HN.out, hb2⟩

set_option maxHeartbeats 2000000 in
theorem spec_parse_plain (s : ByteArray) (w : World) (hs : s.size ≤ 281474976710656) (hz : 0 < s.size) (h45 : ¬ s[0]'hz = 45) :
    Calls Tryd.prog 15 #[.string s] w fun e w' => ParseOut s e ∧ Below w.heap.size w w' := by
  have hc : ((((s[0]'hz).toNat : Nat) : Int) == 45) = false := by
    rw [beq_eq_false_iff_ne]
    exact fun e => h45 (UInt8.toNat_inj.1 (by have : (45 : UInt8).toNat = 45 := rfl; omega))
  have HL := Lib.hid (link_plain hz h45)
  clear h45
  go_enter Tryd.func15, Tryd.ntmps15
  go_wp2_with (go_at_call 26; fail)
  refine (spec_isDigits s _ (by unfold maxLen; omega)).mono ?_
  rintro e w1 ⟨rfl, rfl⟩
  by_cases hd : digB s = true
  rotate_left
  · have hd' : digB s = false := by simpa using hd
    have HN := Lib.hid (no_digits HL.out hd')
    clear hd
    go_wp2
    go_ret2
    exact ⟨out_no HN.out, Below.refl _ _⟩
  by_cases h19 : 19 < s.size
  · have HN := Lib.hid (no_long HL.out h19)
    go_wp2
    go_ret2
    exact ⟨out_no HN.out, Below.refl _ _⟩
  have HD := Lib.hid hd
  go_wp2
  clear hd
  go_loop [6, 7, 8] (fun nv iv _ => ∃ (k : Nat) (m : Nat), k ≤ s.size ∧ nv = .int .i64 (-(m : Int)) ∧ iv = .int .i64 k ∧ Hid (m = dv (s.data.toList.take k)) ∧ m ≤ 9223372036854775808) (fun _ iv _ => s.size - (intOf iv).toNat)
  case atStart => exact ⟨0, 0, Nat.zero_le _, rfl, rfl, by simp [Hid, dv], by omega⟩
  case round =>
    obtain ⟨k, m, hk, rfl, rfl, HM, hm⟩ := hrel
    by_cases hlt : k < s.size
    · obtain ⟨c, hcx⟩ : ∃ c, (s[k]'hlt).toNat = c := ⟨_, rfl⟩
      have hcd := dig_at HD.out hlt hcx
      have HX := Lib.hid (dv_next hlt hcx)
      obtain ⟨h48, h57⟩ := hcd
      by_cases hov : 9223372036854775808 < m * 10 + (c - 48)
      · have HE := Lib.hid (edge_yes h48 h57 hov)
        have HN := Lib.hid (no_big HL.out (Nat.lt_of_lt_of_le (show 9223372036854775808 < dv (s.data.toList.take (k + 1)) by rw [HX.out, ← HM.out]; exact hov) (dv_take _ _)))
        have hlt2 : -(m : Int) < (-9223372036854775808 + ((c : Int) - 48)).tdiv 10 := HE.out
        clear hov
        go_wp2
        go_ret2
        exact ⟨out_no HN.out, Below.refl _ _⟩
      · have HE := Lib.hid (edge_no h48 h57 hov)
        have HV := Lib.hid (show m * 10 + (c - 48) ≤ 9223372036854775808 by omega)
        have hle2 : (-9223372036854775808 + ((c : Int) - 48)).tdiv 10 ≤ -(m : Int) := HE.out
        clear hov
        go_wp2
        go_round
        case rel => exact ⟨k + 1, m * 10 + (c - 48), by omega, edge_val h48 h57 HV.out, by go_num, by unfold Hid; rw [HX.out, ← HM.out], HV.out⟩
        case measure => simp [intOf]; omega
    · obtain rfl : k = s.size := by omega
      have HM2 := Lib.hid (show m = dv s.data.toList by have := HM.out; rw [List.take_of_length_le (by simp)] at this; exact this)
      by_cases hmx : m = 9223372036854775808
      · have HN := Lib.hid (no_edge HL.out (by rw [← HM2.out]; exact hmx))
        have hq : (-(m : Int) == -9223372036854775808) = true := by simp; omega
        clear hmx
        go_wp2
        go_ret2
        exact ⟨out_no HN.out, Below.refl _ _⟩
      have HF := Lib.hid (spec_format (m : Int) w1 (by omega) (by omega))
      have HR := Lib.hid (show ((m : Int)) = (if false then -((dv s.data.toList : Nat) : Int) else (dv s.data.toList : Nat)) by rw [← HM2.out]; rfl)
      have hq : (-(m : Int) == -9223372036854775808) = false := by simp; omega
      have hm2 : m ≤ 9223372036854775807 := by omega
      clear hmx
      go_wp2_with (go_at_call 14; fail)
      refine HF.out.mono ?_
      rintro e w2 ⟨rfl, hb2⟩
      by_cases he : Lib.itoa ((m : Int)) = s.data.toList
      · have HT := Lib.hid (show TextOf s.data.toList ((m : Int)) from ⟨by omega, by omega, he⟩)
        have hq2 : (Lib.itoa ((m : Int)) == s.toList) = true := by rw [ByteArray.toList_eq]; simpa using he
        clear he
        go_wp2
        go_ret2
        exact ⟨⟨_, true, rfl, .inl ⟨rfl, HT.out⟩⟩, hb2⟩
      · have HN := Lib.hid (no_other HL.out HR.out he)
        have hq2 : (Lib.itoa ((m : Int)) == s.toList) = false := by rw [ByteArray.toList_eq]; simpa using he
        clear he
        go_wp2
        go_ret2
        exact ⟨out_no HN.out, hb2⟩

set_option maxHeartbeats 400000 in
theorem spec_parse (s : ByteArray) (w : World) (hs : s.size ≤ 281474976710656) :
    Calls Tryd.prog 15 #[.string s] w fun e w' => ParseOut s e ∧ Below w.heap.size w w' := by
  by_cases h0 : s.size = 0
  · have HN := Lib.hid (no_empty h0)
    have hz : (s.size : Int) ≤ 0 := by omega
    have hd : digB s = false := by unfold digB; rw [decide_eq_false (by omega)]; simp
    clear h0
    go_enter Tryd.func15, Tryd.ntmps15
    go_wp2_with (go_at_call 26; fail)
    refine (spec_isDigits s _ (by unfold maxLen; omega)).mono ?_
    rintro e w1 ⟨rfl, rfl⟩
    go_wp2
    go_ret2
    exact ⟨out_no HN.out, Below.refl _ _⟩
  · by_cases h45 : s[0]'(by omega) = 45
    · exact spec_parse_neg s w hs (by omega) h45
    · exact spec_parse_plain s w hs (by omega) h45

set_option maxHeartbeats 400000 in
theorem law_parseInt (w : World) (htab : Lib.TabIs Tryd.prog w "internal/strconv.uint64pow10" .u64 Lib.pow10Tab) (hsyn : ∃ tp p, w.var? Tryd.prog "strconv.ErrSyntax" = some #[.iface tp p]) (hran : ∃ tp p, w.var? Tryd.prog "strconv.ErrRange" = some #[.iface tp p])
    (s : ByteArray) (hs : s.size ≤ maxLen) :
    Calls Tryd.prog 5 #[.string s] w fun e w' => e = .returned (.bool true) ∧ Below w.heap.size w w' := by
  have hs1 := hs
  unfold maxLen at hs1
  by_cases hl : s.size ≤ 1048576
  · have HS := Lib.hid (spec_parse s w (by omega))
    have HY := Lib.hid (fun w1 n (h : Below w.heap.size w w1) (ht : TextOf s.data.toList n) => impl_parse_yes s n w1 (by omega) ht (tab_below h htab))
    have HN := Lib.hid (fun w1 (h : Below w.heap.size w w1) (ht : ∀ n, ¬ TextOf s.data.toList n) => impl_parse_no s w1 (by omega) ht (tab_below h htab) (by obtain ⟨tp, p, hv⟩ := hsyn; exact ⟨tp, p, var_below h hv⟩) (by obtain ⟨tp, p, hv⟩ := hran; exact ⟨tp, p, var_below h hv⟩))
    clear htab hsyn hran hs hs1
    go_enter Tryd.func5, Tryd.ntmps5
    go_wp2_with fail
    refine HS.out.mono ?_
    rintro e w1 ⟨⟨r, b, rfl, ho⟩, hb1⟩
    rcases ho with ⟨rfl, ho⟩ | ⟨rfl, rfl, ho⟩
    · have HO := Lib.hid ho
      clear ho
      go_wp2_with fail
      refine (HY.out _ r hb1 HO.out).mono ?_
      rintro e w2 ⟨rfl, hb2⟩
      go_wp2
      go_ret
      exact ⟨rfl, hb1.trans (hb2.mono hb1.size)⟩
    · have HO := Lib.hid ho
      clear ho
      go_wp2_with fail
      refine (HN.out _ hb1 HO.out).mono ?_
      rintro e w2 ⟨rfl, hb2⟩
      go_wp2
      go_ret
      exact ⟨rfl, hb1.trans (hb2.mono hb1.size)⟩
  · go_enter Tryd.func5, Tryd.ntmps5
    go_wp2
    go_ret
    exact ⟨rfl, Below.refl _ _⟩

end Go.Proofs.YtmjbnbabhgngpaaDoor
