/- Reads: ParseNat ParseLaw. -/
import Derived.Test.YtdajldenjeanhaaGreatDoorNumb
import Derived.Test.YtdajldenjeanhaaGreatDoorBase
import Derived.Test.YtdajldenjeanhaaGreatDoorSums
import Derived.Test.YtdajldenjeanhaaGreatDoorShelf
import Derived.Lib.AtoiErrMem
/-! ParseNat -/
namespace Go.Proofs.YtdajldenjeanhaaGreatDoor
set_option maxRecDepth 100000
set_option linter.unusedVariables false
set_option linter.unusedSimpArgs false
open Go.RowKit

set_option maxRecDepth 100000
theorem digB_digs {t : ByteArray} (h : digB t = true) : AllDig t.data.toList := by
  unfold digB at h
  rw [Bool.and_eq_true, List.all_eq_true] at h
  intro c hc
  have := h.1 c hc
  simp only [UInt8.le_iff_toNat_le, Bool.and_eq_true, decide_eq_true_eq] at this
  exact this
theorem digB_pos {t : ByteArray} (h : digB t = true) : 0 < t.size := by
  unfold digB at h
  rw [Bool.and_eq_true, decide_eq_true_eq] at h
  exact h.2
theorem digs_digB {t : ByteArray} (h : AllDig t.data.toList) (h0 : 0 < t.size) : digB t = true := by
  unfold digB
  rw [Bool.and_eq_true, decide_eq_true_eq, List.all_eq_true]
  refine ⟨fun c hc => ?_, h0⟩
  have := h c hc
  simp only [UInt8.le_iff_toNat_le, Bool.and_eq_true, decide_eq_true_eq]
  exact this
/-- the texts that are natural numbers -/
def numB (s : ByteArray) : Bool := digB s && decide (s.size ≤ 540) && (decide (s.size = 1) || decide (s.data.toList.head? ≠ some 48))
def numV (s : ByteArray) : Nat := dv s.data.toList
theorem head_get {s : ByteArray} (h : 0 < s.size) : s.data.toList.head? = some (s[0]'h) := by
  have h1 : 0 < s.data.toList.length := by simpa using h
  rw [List.head?_eq_getElem?, List.getElem?_eq_getElem h1]
  rfl
theorem sz_list (s : ByteArray) : s.data.toList.length = s.size := by
  show s.data.toList.length = s.data.size
  simp
theorem decFrom_dig : ∀ (l : List UInt8) (a : Nat), AllDig l → Lib.decFrom a l = some (l.foldl dStep a)
  | [], a, _ => rfl
  | c :: r, a, h => by
    have hc := h c (by simp)
    rw [Lib.decFrom]
    unfold Lib.digitVal
    rw [if_pos hc]
    exact decFrom_dig r _ (fun x hx => h x (by simp [hx]))
theorem atoi_dig {l : List UInt8} (h : AllDig l) (h0 : l ≠ []) : Lib.atoi l = some ((dv l : Nat) : Int) := by
  cases l with
  | nil => exact absurd rfl h0
  | cons c r =>
    have hc := h c (by simp)
    have e1 : (c == 45) = false := by
      rw [beq_eq_false_iff_ne]
      intro e; subst e; exact absurd hc.1 (by decide)
    have e2 : (c == 43) = false := by
      rw [beq_eq_false_iff_ne]
      intro e; subst e; exact absurd hc.1 (by decide)
    unfold Lib.atoi
    simp only [e1, e2]
    unfold Lib.decNat
    rw [decFrom_dig _ _ h]
    rfl
/-- a group's bytes -/
theorem ext_list (s : ByteArray) (f e : Nat) : (s.extract f e).data.toList = (s.data.toList.take e).drop f := by
  rw [ByteArray.data_extract, Array.toList_extract, List.extract_eq_take_drop, List.drop_take]
theorem dv_put {s : ByteArray} {f i c : Nat} (hf : f ≤ i) (hi : i < s.size) (hc : (s[i]'hi).toNat = c) : dv ((s.data.toList.take (i + 1)).drop f) = dv ((s.data.toList.take i).drop f) * 10 + (c - 48) := by
  have hil : i < s.data.toList.length := by rw [sz_list]; exact hi
  rw [List.take_succ_eq_append_getElem hil, List.drop_append_of_le_length (by rw [List.length_take]; omega), dv_snoc]
  simp only [Array.getElem_toList]
  rw [show s.data[i].toNat = c from hc]
theorem dig_in {s : ByteArray} {i c : Nat} (h : digB s = true) (hi : i < s.size) (hc : (s[i]'hi).toNat = c) : 48 ≤ c ∧ c ≤ 57 := by
  rw [← hc]
  exact digB_digs h _ (by have : s[i]'hi = s.data[i]'hi := rfl; rw [this]; simp)
theorem part_lt {s : ByteArray} (h : digB s = true) {f i : Nat} (hfi : i ≤ f + 9) (hi : i ≤ s.size) : dv ((s.data.toList.take i).drop f) < 1000000000 := by
  have h1 := dv_lt ((s.data.toList.take i).drop f) (fun c hc => digB_digs h c (List.mem_of_mem_take (List.mem_of_mem_drop hc)))
  have h2 : ((s.data.toList.take i).drop f).length ≤ 9 := by rw [List.length_drop, List.length_take, sz_list]; omega
  exact Nat.lt_of_lt_of_le h1 (Nat.pow_le_pow_right (n := 10) (by omega) h2)

theorem dv_none (s : ByteArray) (f : Nat) : dv ((s.data.toList.take f).drop f) = 0 := by
  rw [List.drop_of_length_le (by rw [List.length_take]; omega)]; rfl
theorem int_of_nat {a b : Nat} (h : a = b) : Value.int .i64 (a : Int) = Value.int .i64 (b : Int) := by rw [h]
set_option maxHeartbeats 2000000 in
theorem spec_parseNat_yes (s : ByteArray) (w : World) (hd : digB s = true) (hs : s.size ≤ 540) (h1 : s.size = 1 ∨ s.data.toList.head? ≠ some 48) :
    Calls Tryz.prog 45 #[.string s] w fun e w' => ∃ v, e = .returned (.tuple #[v, .bool true]) ∧ OwnI w' w.heap.size v (limI (numV s)) ∧ Below w.heap.size w w' := by
  have K0 := Lib.hid (spec_isDigits s w (by unfold maxLen; omega))
  rw [hd] at K0
  have HP := digB_pos hd
  have HG := Lib.hid (fun (k e : Nat) (he : e = s.size - 9 * k) (hk : 9 * k < s.size) => dv_group (l := s.data.toList) (digB_digs hd) (k := k) (f := e - 9) (e := e) (by rw [sz_list]; exact he) (by rw [sz_list]; exact hk) rfl)
  have HL := Lib.hid (fun (k : Nat) (hk : s.size ≤ 9 * k) => dv_nlen (l := s.data.toList) (digB_digs hd) (k := k) (by rw [sz_list]; exact hk))
  have HPL := Lib.hid (fun (f i : Nat) (hfi : i ≤ f + 9) (hi : i ≤ s.size) => part_lt hd hfi hi)
  have HDI := Lib.hid (fun (i c : Nat) (hi : i < s.size) (hc : (s[i]'hi).toNat = c) => dig_in hd hi hc)
  have h0 := head_get HP
  obtain ⟨c0, hc0⟩ : ∃ c, (s[0]'HP).toNat = c := ⟨_, rfl⟩
  have hc48 : s.size = 1 ∨ (1 < s.size ∧ ((c0 : Int) == 48) = false) := by
    by_cases hs1 : s.size = 1
    · exact .inl hs1
    · right
      rcases h1 with h1 | h1
      · exact absurd h1 hs1
      · rw [h0] at h1
        have : c0 ≠ 48 := fun e => h1 (by
          congr 1
          apply UInt8.toNat_inj.1
          rw [hc0, e]; rfl)
        exact ⟨by omega, by rw [beq_eq_false_iff_ne]; intro e; exact this (by omega)⟩
  clear h0 h1 hd
  obtain ⟨n, hn⟩ : ∃ n, s.size = n := ⟨_, rfl⟩
  have HN := Lib.hid hn
  rw [hn] at hc48
  rcases hc48 with hc48 | ⟨hc47, hc48⟩
  all_goals
    go_enter Tryz.func45, Tryz.ntmps45
    go_wp2_with (go_at_call 60; refine K0.out.mono ?_; rintro e w' ⟨rfl, hw⟩; obtain rfl := hw.symm)
    have HC := Lib.hid hc48
    clear hc48
    try clear hc47
    go_loopw [4, 5] (fun ov ev wr => ∃ k : Nat, 9 * k ≤ n + 8 ∧ ev = .int .i64 ((n : Int) - 9 * (k : Int)) ∧ Hid (OwnI wr w.heap.size ov (listF k (digF (dv s.data.toList)))) ∧ Hid (Below w.heap.size w wr)) (fun _ ev _ => (intOf ev).toNat)
    case atStart => exact ⟨0, by omega, by first | (simp; done) | (have := HC.out; congr 1; omega), OwnI.lit0 w, (Below.refl _ w).alloc (Nat.le_refl _) _⟩
    case round =>
      obtain ⟨k, hk, rfl, HO, HB⟩ := hrel
      obtain ⟨v, rfl⟩ : ∃ v, v = u4 := ⟨_, rfl⟩
      by_cases hp : 9 * k < n
      · obtain ⟨e, he⟩ : ∃ e, n - 9 * k = e := ⟨_, rfl⟩
        have he2 : ((n : Int) - 9 * (k : Int)) = (e : Int) := by omega
        have HG1 := Lib.hid (HG.out k e (by rw [HN.out]; omega) (by rw [HN.out]; exact hp))
        rw [he2]
        have hen : e ≤ n := by omega
        have hep : 0 < e := by omega
        have HE := Lib.hid he
        obtain ⟨f, hf⟩ : ∃ f, e - 9 = f := ⟨_, rfl⟩
        rw [hf] at HG1
        have hfe : e ≤ f + 9 := by omega
        have hff : f ≤ e := by omega
        have HF0 : e < 9 → f = 0 := by omega
        have HF1 : 9 ≤ e → (e : Int) - 9 = f := by omega
        have HFF := Lib.hid (And.intro HF0 HF1)
        clear he he2 hf HF0 HF1
        by_cases h9 : 9 ≤ e
        all_goals
          try (have hf1 := HFF.out.2 h9)
          go_wp2_with fail
          go_loop [7, 8] (fun nv iv => ∃ i : Nat, f ≤ i ∧ i ≤ e ∧ iv = .int .i64 i ∧ ∃ m : Nat, nv = .int .i64 m ∧ m < 1000000000 ∧ Hid (m = dv ((s.data.toList.take i).drop f))) (fun _ iv => e - (intOf iv).toNat)
          case atStart => exact ⟨f, Nat.le_refl _, hff, by first | rfl | (rw [HFF.out.1 (by omega)]; rfl), 0, rfl, by omega, (dv_none s f).symm⟩
          case round =>
            obtain ⟨i, hfi, hie, rfl, m, rfl, hm, HM⟩ := hrel
            by_cases hlt : i < e
            · have his : i < s.size := by rw [HN.out]; omega
              obtain ⟨c, hc⟩ : ∃ c, (s[i]'his).toNat = c := ⟨_, rfl⟩
              have hcb := HDI.out i c his hc
              have HP1 := Lib.hid (dv_put (s := s) hfi his hc)
              have HB1 := Lib.hid (HPL.out f (i + 1) (by omega) (by rw [HN.out]; omega))
              go_wp2
              go_round
              case rel => exact ⟨i + 1, by omega, by omega, by go_num, m * 10 + (c - 48), by go_num, by have := HB1.out; rw [HP1.out, ← HM.out] at this; exact this, by unfold Hid; rw [HP1.out, ← HM.out]⟩
              case measure => simp [intOf]; omega
            · have hie2 : i = e := by omega
              subst hie2
              have HD : Hid ((m : Int) = digF (dv s.data.toList) k) := by unfold Hid digF; rw [HM.out, HG1.out]
              have hln : (listF k (digF (dv s.data.toList))).length ≤ 1099511627776 := by rw [listF_length]; omega
              have hc2 : ∀ o, w.heap.size ≤ (wr.alloc o).heap.size := fun o => by have := HB.out.size; simp; omega
              have HE3 : Hid ((i : Int) - 9 = (n : Int) - 9 * ((k + 1 : Nat) : Int)) := by unfold Hid; have := HE.out; omega
              go_wp2_with (at_builtin; refine append_int rfl _ _ 34 Tryz.underlying34 rfl w.heap.size _ _ _ ⟨wr.heap.size, 0, none⟩ rfl (HO.out.alloc _) rfl (cell_one_new _ _ _) hln (hc2 _) ?_; intro v' w1 h1 hg1)
              go_roundw
              case rel => exact ⟨k + 1, by omega, by have := HE3.out; first | (congr 1; omega) | congr 1, by rw [HD.out] at h1; unfold Hid; rw [listF_succ]; exact h1, (HB.out.alloc HB.out.size _).grown hg1 (hc2 _) fun g hg => (HO.out.lt g hg).1⟩
              case measure => simp [intOf]; omega
      · have HLL := Lib.hid (HL.out k (by rw [HN.out]; omega))
        have T := Lib.hid (spec_trim v (dv s.data.toList) k w.heap.size wr HO.out HLL.out)
        have hneg : ¬ 0 < (n : Int) - 9 * (k : Int) := by omega
        go_wp2_with (go_at_call 61; refine T.out.mono ?_; rintro e w' ⟨v', rfl, hO, hw⟩; obtain rfl := hw.symm)
        go_ret2
        exact ⟨_, rfl, hO, HB.out⟩

set_option maxHeartbeats 2000000 in
theorem impl_parseNat_yes (s : ByteArray) (w : World) (hd : digB s = true) (hs : s.size ≤ 540) (h1 : s.size = 1 ∨ s.data.toList.head? ≠ some 48) :
    Calls Tryz.prog 48 #[.string s] w fun e w' => ∃ v, e = .returned (.tuple #[v, .bool true]) ∧ OwnI w' w.heap.size v (limI (numV s)) ∧ Below w.heap.size w w' := by
  have K0 := Lib.hid (impl_isDigits s w (by unfold maxLen; omega))
  rw [hd] at K0
  have HP := digB_pos hd
  have HG := Lib.hid (fun (k e : Nat) (he : e = s.size - 9 * k) (hk : 9 * k < s.size) => dv_group (l := s.data.toList) (digB_digs hd) (k := k) (f := e - 9) (e := e) (by rw [sz_list]; exact he) (by rw [sz_list]; exact hk) rfl)
  have HL := Lib.hid (fun (k : Nat) (hk : s.size ≤ 9 * k) => dv_nlen (l := s.data.toList) (digB_digs hd) (k := k) (by rw [sz_list]; exact hk))
  have HAT := Lib.hid (fun (f e : Nat) (h9 : e ≤ f + 9) (hfe : f < e) (he : e ≤ s.size) W => Tryz.strconv_Atoi (s.extract f e) ((dv ((s.data.toList.take e).drop f) : Nat) : Int) (by rw [← sz_list, ext_list, List.length_drop, List.length_take]; omega) (by
    rw [ext_list]
    refine atoi_dig (fun c hc => digB_digs hd c (List.mem_of_mem_take (List.mem_of_mem_drop hc))) (fun h => ?_)
    have := congrArg List.length h
    rw [List.length_drop, List.length_take, sz_list] at this
    simp at this; omega) W)
  have h0 := head_get HP
  obtain ⟨c0, hc0⟩ : ∃ c, (s[0]'HP).toNat = c := ⟨_, rfl⟩
  have hc48 : (c0 : Int) = 48 → s.data.toList = [48] := fun e => by
    have e48 : s[0]'HP = 48 := by
      apply UInt8.toNat_inj.1
      rw [hc0]; show c0 = 48; omega
    rcases h1 with h1 | h1
    · have hl : s.data.toList.length = 1 := by rw [sz_list]; exact h1
      obtain ⟨a, ha⟩ := List.length_eq_one_iff.1 hl
      rw [ha] at h0
      rw [ha]
      simp at h0
      rw [h0, e48]
    · rw [h0, e48] at h1
      exact absurd rfl h1
  have hstr : ((c0 : Int) == 48) = false ∨ (((c0 : Int) == 48) = true ∧ s = ⟨#[48]⟩) := by
    by_cases e : (c0 : Int) = 48
    · right
      refine ⟨by rw [beq_iff_eq]; exact e, ?_⟩
      apply ByteArray.ext
      apply Array.toList_inj.1
      exact hc48 e
    · exact .inl (by rw [beq_eq_false_iff_ne]; exact e)
  clear h0 h1 hd hc48
  have hstr : ((c0 : Int) == 48) = false ∨ (((c0 : Int) == 48) = true ∧ (s.toList == [48]) = true) := by
    rcases hstr with h | ⟨h, e⟩
    · exact .inl h
    · exact .inr ⟨h, by rw [e]; decide +kernel⟩
  obtain ⟨n, hn⟩ : ∃ n, s.size = n := ⟨_, rfl⟩
  have HN := Lib.hid hn
  rcases hstr with hstr | ⟨hstr, hss⟩
  all_goals
    go_enter Tryz.func48, Tryz.ntmps48
    go_wp2_with (go_at_call 64; refine K0.out.mono ?_; rintro e w0 ⟨rfl, b0⟩)
    have B0 := Lib.hid b0
    clear b0 hstr
    try clear hss
    go_loopw [4, 5] (fun ov ev wr => ∃ k : Nat, 9 * k ≤ n + 8 ∧ ev = .int .i64 ((n : Int) - 9 * (k : Int)) ∧ Hid (OwnI wr w.heap.size ov (listF k (digF (dv s.data.toList)))) ∧ Hid (Below w.heap.size w wr)) (fun _ ev _ => (intOf ev).toNat)
    case atStart => exact ⟨0, by omega, by first | (simp; done) | (congr 1; omega), OwnI.nil _ _, B0⟩
    case round =>
      obtain ⟨k, hk, rfl, HO, HB⟩ := hrel
      obtain ⟨v, rfl⟩ : ∃ v, v = u4 := ⟨_, rfl⟩
      by_cases hp : 9 * k < n
      · obtain ⟨e, he⟩ : ∃ e, n - 9 * k = e := ⟨_, rfl⟩
        have he2 : ((n : Int) - 9 * (k : Int)) = (e : Int) := by omega
        have HG1 := Lib.hid (HG.out k e (by rw [HN.out]; omega) (by rw [HN.out]; exact hp))
        rw [he2]
        have hen : e ≤ n := by omega
        have hep : 0 < e := by omega
        have HE := Lib.hid he
        obtain ⟨f, hf⟩ : ∃ f, e - 9 = f := ⟨_, rfl⟩
        rw [hf] at HG1
        have hff : f < e := by omega
        have hmx : max (0 : Int) ((e : Int) - 9) = (f : Int) := by omega
        have AT := Lib.hid (HAT.out f e (by omega) hff (by rw [HN.out]; exact hen))
        rw [HG1.out] at AT
        have HD : Hid (((dig (dv s.data.toList) k : Nat) : Int) = digF (dv s.data.toList) k) := rfl
        have hdl := dig_lt (dv s.data.toList) k
        have hln : (listF k (digF (dv s.data.toList))).length ≤ 1099511627776 := by rw [listF_length]; omega
        have HE3 : Hid ((e : Int) - 9 = (n : Int) - 9 * ((k + 1 : Nat) : Int)) := by unfold Hid; have := HE.out; omega
        obtain ⟨d, hd⟩ : ∃ d, dig (dv s.data.toList) k = d := ⟨_, rfl⟩
        rw [hd] at AT HD hdl
        clear he he2 hf hd
        go_wp2_with fail
        refine (AT.out _).mono ?_
        rintro e' w1 ⟨rfl, t, hw⟩
        have b1 : Below wr.heap.size wr w1 := by rw [hw]; exact Lib.bytesWorld_below _ _ _
        clear hw
        have HO1 := Lib.hid (HO.out.below b1)
        have HB1 := Lib.hid (HB.out.trans (b1.mono HB.out.size))
        have hc2 : ∀ o, w.heap.size ≤ (w1.alloc o).heap.size := fun o => by have := HB1.out.size; simp; omega
        go_wp2_with (at_builtin; refine append_int rfl _ _ 75 Tryz.underlying75 rfl w.heap.size _ _ _ ⟨w1.heap.size, 0, none⟩ rfl (HO1.out.alloc _) rfl (cell_one_new _ _ _) hln (hc2 _) ?_; intro v' w2 h1 hg1)
        go_roundw
        case rel => exact ⟨k + 1, by omega, by have := HE3.out; first | (congr 1; omega) | congr 1, by rw [HD.out] at h1; unfold Hid; rw [listF_succ]; exact h1, (HB1.out.alloc HB1.out.size _).grown hg1 (hc2 _) fun g hg => (HO1.out.lt g hg).1⟩
        case measure => simp [intOf]; omega
      · have HLL := Lib.hid (HL.out k (by rw [HN.out]; omega))
        have T := Lib.hid (impl_trimmed v (dv s.data.toList) k w.heap.size wr HO.out HLL.out)
        have hneg : ¬ 0 < (n : Int) - 9 * (k : Int) := by omega
        go_wp2_with (go_at_call 66; refine T.out.mono ?_; rintro e w' ⟨v', rfl, hO, _, hw⟩; obtain rfl := hw.symm)
        go_ret2
        exact ⟨_, rfl, hO, HB.out⟩

end Go.Proofs.YtdajldenjeanhaaGreatDoor

/-! ParseLaw -/
namespace Go.Proofs.YtdajldenjeanhaaGreatDoor
set_option maxRecDepth 100000
set_option linter.unusedVariables false
set_option linter.unusedSimpArgs false
open Go.RowKit

set_option maxRecDepth 100000
def parseL (s : ByteArray) : List Int := if numB s then limI (numV s) else []
theorem parseL_yes {s : ByteArray} (h : numB s = true) : parseL s = limI (numV s) := if_pos h
theorem parseL_no {s : ByteArray} (h : numB s = false) : parseL s = [] := by unfold parseL; rw [h]; rfl
theorem numB_parts {s : ByteArray} (h : numB s = true) : digB s = true ∧ s.size ≤ 540 ∧ (s.size = 1 ∨ s.data.toList.head? ≠ some 48) := by
  unfold numB at h
  rw [Bool.and_eq_true, Bool.and_eq_true, Bool.or_eq_true, decide_eq_true_eq, decide_eq_true_eq, decide_eq_true_eq] at h
  exact ⟨h.1.1, h.1.2, h.2⟩
theorem numB_mk {s : ByteArray} (h1 : digB s = true) (h2 : s.size ≤ 540) (h3 : s.size = 1 ∨ s.data.toList.head? ≠ some 48) : numB s = true := by
  unfold numB
  rw [h1, decide_eq_true h2]
  rcases h3 with h3 | h3
  · rw [decide_eq_true h3]; rfl
  · rw [decide_eq_true h3]; simp
theorem parseL_len (s : ByteArray) : (parseL s).length ≤ 1000 := by
  unfold parseL
  split
  · rename_i h
    obtain ⟨h1, h2, h3⟩ := numB_parts h
    rw [limI_length]
    have := dv_nlen (l := s.data.toList) (digB_digs h1) (k := 60) (by rw [sz_list]; omega)
    unfold numV; omega
  · simp

set_option maxHeartbeats 1000000 in
theorem spec_parseNat (s : ByteArray) (w : World) (hs : s.size ≤ 1048576) :
    Calls Tryz.prog 45 #[.string s] w fun e w' => ∃ v, e = .returned (.tuple #[v, .bool (numB s)]) ∧ OwnI w' w.heap.size v (parseL s) ∧ Below w.heap.size w w' := by
  have K0 : Hid (Calls Tryz.prog 60 #[.string s] w fun e w' => e = .returned (.bool (digB s)) ∧ Below w.heap.size w w') := (spec_isDigits s w (by unfold maxLen; omega)).mono fun _ _ ⟨h1, h2⟩ => ⟨h1, by rw [h2]; exact Below.refl _ _⟩
  cases hB : numB s with
  | true =>
    obtain ⟨h1, h2, h3⟩ := numB_parts hB
    rw [parseL_yes hB]
    exact spec_parseNat_yes s w h1 h2 h3
  | false =>
    rw [parseL_no hB]
    obtain ⟨n, hn⟩ : ∃ n, s.size = n := ⟨_, rfl⟩
    by_cases h540 : 540 < n
    · cases hd : digB s with
      | false =>
        rw [hd] at K0
        clear hd hB
        go_enter Tryz.func45, Tryz.ntmps45
        go_wp2_with (go_at_call 60; refine K0.out.mono ?_; rintro e w0 ⟨rfl, b0⟩)
        go_ret2
        exact ⟨_, rfl, OwnI.nil _ _, b0⟩
      | true =>
        rw [hd] at K0
        clear hd hB
        go_enter Tryz.func45, Tryz.ntmps45
        go_wp2_with (go_at_call 60; refine K0.out.mono ?_; rintro e w0 ⟨rfl, b0⟩)
        go_ret2
        exact ⟨_, rfl, OwnI.nil _ _, b0⟩
    · cases hd : digB s with
      | false =>
        rw [hd] at K0
        clear hd hB
        go_enter Tryz.func45, Tryz.ntmps45
        go_wp2_with (go_at_call 60; refine K0.out.mono ?_; rintro e w0 ⟨rfl, b0⟩)
        go_ret2
        exact ⟨_, rfl, OwnI.nil _ _, b0⟩
      | true =>
        rw [hd] at K0
        have hP := digB_pos hd
        have h3 : ¬ (s.size = 1 ∨ s.data.toList.head? ≠ some 48) := fun h => by
          rw [numB_mk hd (by omega) h] at hB
          exact absurd hB (by decide)
        have h1 : 1 < n := by
          rcases Nat.lt_or_ge 1 n with h | h
          · exact h
          · exact absurd (.inl (by omega)) h3
        have h4 : s.data.toList.head? = some 48 := Classical.byContradiction fun h => h3 (.inr h)
        rw [head_get hP] at h4
        obtain ⟨c0, hc0⟩ : ∃ c, (s[0]'hP).toNat = c := ⟨_, rfl⟩
        have h48 : ((c0 : Int) == 48) = true := by
          injection h4 with h4
          rw [h4] at hc0
          rw [← hc0]; rfl
        have hne : (s.toList == [48]) = false := by
          rw [beq_eq_false_iff_ne]
          intro e
          rw [ByteArray.toList_eq] at e
          have := congrArg List.length e
          rw [sz_list] at this
          simp at this; omega
        clear hd hB h3 h4
        go_enter Tryz.func45, Tryz.ntmps45
        go_wp2_with (go_at_call 60; refine K0.out.mono ?_; rintro e w0 ⟨rfl, b0⟩)
        go_ret2
        exact ⟨_, rfl, OwnI.nil _ _, b0⟩

set_option maxHeartbeats 1000000 in
theorem impl_parseNat (s : ByteArray) (w : World) (hs : s.size ≤ 1048576) :
    Calls Tryz.prog 48 #[.string s] w fun e w' => ∃ v, e = .returned (.tuple #[v, .bool (numB s)]) ∧ OwnI w' w.heap.size v (parseL s) ∧ Below w.heap.size w w' := by
  have K0 : Hid (Calls Tryz.prog 64 #[.string s] w fun e w' => e = .returned (.bool (digB s)) ∧ Below w.heap.size w w') := impl_isDigits s w (by unfold maxLen; omega)
  cases hB : numB s with
  | true =>
    obtain ⟨h1, h2, h3⟩ := numB_parts hB
    rw [parseL_yes hB]
    exact impl_parseNat_yes s w h1 h2 h3
  | false =>
    rw [parseL_no hB]
    obtain ⟨n, hn⟩ : ∃ n, s.size = n := ⟨_, rfl⟩
    by_cases h540 : 540 < n
    · clear hB
      go_enter Tryz.func48, Tryz.ntmps48
      go_wp2_with (go_at_call 64; refine K0.out.mono ?_; rintro e w0 ⟨rfl, b0⟩)
      go_ret2
      exact ⟨_, rfl, OwnI.nil _ _, Below.refl _ _⟩
    · cases hd : digB s with
      | false =>
        rw [hd] at K0
        clear hd hB
        go_enter Tryz.func48, Tryz.ntmps48
        go_wp2_with (go_at_call 64; refine K0.out.mono ?_; rintro e w0 ⟨rfl, b0⟩)
        go_ret2
        exact ⟨_, rfl, OwnI.nil _ _, b0⟩
      | true =>
        rw [hd] at K0
        have hP := digB_pos hd
        have h3 : ¬ (s.size = 1 ∨ s.data.toList.head? ≠ some 48) := fun h => by
          rw [numB_mk hd (by omega) h] at hB
          exact absurd hB (by decide)
        have h1 : 1 < n := by
          rcases Nat.lt_or_ge 1 n with h | h
          · exact h
          · exact absurd (.inl (by omega)) h3
        have h4 : s.data.toList.head? = some 48 := Classical.byContradiction fun h => h3 (.inr h)
        rw [head_get hP] at h4
        obtain ⟨c0, hc0⟩ : ∃ c, (s[0]'hP).toNat = c := ⟨_, rfl⟩
        have h48 : ((c0 : Int) == 48) = true := by
          injection h4 with h4
          rw [h4] at hc0
          rw [← hc0]; rfl
        have hne : (s.toList == [48]) = false := by
          rw [beq_eq_false_iff_ne]
          intro e
          rw [ByteArray.toList_eq] at e
          have := congrArg List.length e
          rw [sz_list] at this
          simp at this; omega
        clear hd hB h3 h4
        go_enter Tryz.func48, Tryz.ntmps48
        go_wp2_with (go_at_call 64; refine K0.out.mono ?_; rintro e w0 ⟨rfl, b0⟩)
        go_ret2
        exact ⟨_, rfl, OwnI.nil _ _, b0⟩

end Go.Proofs.YtdajldenjeanhaaGreatDoor
