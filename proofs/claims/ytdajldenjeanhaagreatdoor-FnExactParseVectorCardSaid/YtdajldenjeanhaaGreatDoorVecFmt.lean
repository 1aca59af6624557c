/- FormatVector of the model and of the program. -/
import Derived.Test.YtdajldenjeanhaaGreatDoorVecOk
import Derived.Test.YtdajldenjeanhaaGreatDoorRatFmt
import Derived.Test.YtdajldenjeanhaaGreatDoorParts
import Derived.Test.YtdajldenjeanhaaGreatDoorTexts
import Derived.WalkSpells
import Derived.Laws.OwnMore
import Derived.Laws.MakeOwn
namespace Go.Proofs.YtdajldenjeanhaaGreatDoor
open Go.RowKit Go.WideShapes Go.ChangeShapes
set_option linter.unusedVariables false
set_option linter.unusedSimpArgs false
def fmtF (f : Fr) : ByteArray := ratText f.neg f.mag f.den
def sepV : ByteArray := ⟨#[32]⟩
def partsV (L : List Fr) : List ByteArray := L.map fmtF
def vecT (L : List Fr) : ByteArray := if vecB ratOk L then ⟨(joinK (partsV L) sepV (partsV L).length).toArray⟩ else ⟨#[]⟩
theorem fmtF_size (f : Fr) : (fmtF f).size ≤ 2002 := by
  unfold fmtF ratText
  split
  · split
    · have := bigText_size f.neg f.mag; omega
    · have h1 := bigText_size f.neg f.mag
      have h2 := natText_size f.den
      rw [ByteArray.size_append, ByteArray.size_append]
      have h3 : (⟨#[47]⟩ : ByteArray).size = 1 := rfl
      omega
  · show 0 ≤ 2002; omega
theorem joinK_le {ss : List ByteArray} {sep : ByteArray} {M : Nat} (hs : ∀ s ∈ ss, s.size ≤ M) : ∀ k, (joinK ss sep k).length ≤ k * (M + sep.size)
  | 0 => by rw [joinK_zero]; simp
  | k + 1 => by
    have ih := joinK_le (sep := sep) hs k
    by_cases h : k < ss.length
    · have h1 := hs _ (List.getElem_mem h)
      by_cases h0 : k = 0
      · subst h0
        rw [joinK_one sep h rfl]
        simp; omega
      · rw [joinK_succ sep (by omega) h rfl]
        have e1 : sep.data.toList.length = sep.size := by simp
        have e2 : (ss[k]'h).data.toList.length = (ss[k]'h).size := by simp
        simp only [List.length_append, e1, e2, Nat.add_mul]
        omega
    · have e : joinK ss sep (k + 1) = joinK ss sep k := by
        unfold joinK
        rw [List.take_of_length_le (by omega), List.take_of_length_le (by omega)]
      rw [e]
      exact Nat.le_trans ih (Nat.mul_le_mul_right _ (by omega))
theorem parts_size (L : List Fr) : ∀ s ∈ partsV L, s.size ≤ 2002 := by
  intro s hs
  obtain ⟨f, _, rfl⟩ := List.mem_map.1 hs
  exact fmtF_size f
theorem partsV_join {L : List Fr} (h : L.length ≤ 24) (k : Nat) : (joinK (partsV L) sepV k).length ≤ 140737488355328 := by
  have h1 := joinK_le (sep := sepV) (parts_size L)
  by_cases hk : k ≤ 24
  · have := h1 k
    have e : sepV.size = 1 := rfl
    rw [e] at this
    have : k * (2002 + 1) ≤ 24 * 2003 := Nat.mul_le_mul_right _ hk
    omega
  · have e : joinK (partsV L) sepV k = joinK (partsV L) sepV 24 := by
      unfold joinK partsV
      rw [List.take_of_length_le (by simp; omega), List.take_of_length_le (by simp; omega)]
    rw [e]
    have := h1 24
    have e : sepV.size = 1 := rfl
    rw [e] at this
    omega
theorem parts_take {L : List Fr} {k : Nat} (h : k < L.length) : (partsV L).take (k + 1) = (partsV L).take k ++ [fmtF (L[k]'h)] := by
  have h' : k < (partsV L).length := by unfold partsV; simpa using h
  rw [List.take_succ_eq_append_getElem h']
  exact congrArg (fun z => (partsV L).take k ++ [z]) (List.getElem_map fmtF)
theorem vec_len {L : List Fr} (h : vecB ratOk L = true) : L.length ≤ 24 := by
  unfold vecB at h
  simp only [Bool.and_eq_true, decide_eq_true_eq] at h
  exact h.1

set_option maxRecDepth 100000 in
set_option maxHeartbeats 2000000 in
theorem spec_formatV (v : Value) (L : List Fr) (w : World) (h : RatsAt w v L) :
    Calls Tryz.prog 6 #[v] w fun e w' => e = .returned (.string (vecT L)) ∧ Below w.heap.size w w' := by
  have KV := Lib.hid (fun (W : World) (hW : Below w.heap.size w W) => spec_isV v L W (h.below hW))
  obtain ⟨a, cap, rfl, hc, hm, hr⟩ := h
  unfold maxLen at hm
  have R := Lib.hid hr
  clear hr
  obtain ⟨n, hnn⟩ : ∃ n, L.length = n := ⟨_, rfl⟩
  rw [hnn] at hc KV ⊢
  have HN := Lib.hid hnn
  clear hnn
  cases q : vecB ratOk L with
  | false =>
    rw [show vecT L = ⟨#[]⟩ by unfold vecT; rw [q]; rfl]
    rw [q] at KV
    go_enter Tryz.func6, Tryz.ntmps6
    go_wp2_with fail
    refine (KV.out _ ((Below.refl _ _).alloc (Nat.le_refl _) _)).mono ?_
    rintro e w1 ⟨rfl, b1⟩
    have B1 := Lib.hid (((Below.refl w.heap.size w).alloc (Nat.le_refl _) (.cells #[] 9)).trans (b1.mono (by simp)))
    go_wp2
    go_ret
    exact ⟨rfl, B1.out⟩
  | true =>
  have hl := vec_len q
  rw [show vecT L = ⟨(joinK (partsV L) sepV (partsV L).length).toArray⟩ by unfold vecT; rw [q]; rfl]
  have HPL := Lib.hid (show (partsV L).length = n by unfold partsV; rw [List.length_map]; exact HN.out)
  have HJ := Lib.hid (partsV_join hl)
  rw [HN.out] at hl
  rw [q] at KV
  clear q
  obtain ⟨T, hT⟩ : ∃ x, x = (⟨(joinK (partsV L) sepV (partsV L).length).toArray⟩ : ByteArray) := ⟨_, rfl⟩
  rw [← hT]
  have HT := Lib.hid hT
  clear hT
  go_enter Tryz.func6, Tryz.ntmps6
  go_wp2_with fail
  obtain ⟨W1, hW1⟩ : ∃ x, x = w.alloc (.cells #[] 9) := ⟨_, rfl⟩
  have HO1 := Lib.hid (show W1.ownsRow w.heap.size 9 1 (.slice (some ⟨w.heap.size, 0, none⟩) 0 0) 0 ([] : List Value) by rw [hW1]; exact World.ownsRow_lit (e := 9) (size := 1) w #[] 0 (Nat.le_refl _) (by unfold maxLen; omega) (by simp))
  have B1 := Lib.hid (show Below w.heap.size w W1 by rw [hW1]; exact (Below.refl _ _).alloc (Nat.le_refl _) _)
  rw [← hW1]
  clear hW1
  refine (KV.out _ B1.out).mono ?_
  rintro e w2 ⟨rfl, b2⟩
  have HO := Lib.hid (show w2.ownsRow w.heap.size 9 1 (.slice (some ⟨w.heap.size, 0, none⟩) 0 0) 0 ((((partsV L).take 0)).map .string) from ownsRow_below HO1.out b2)
  have HB := Lib.hid (B1.out.trans (b2.mono B1.out.size))
  clear b2 B1 HO1
  go_wp2_with fail
  go_loopw [3, 12] (fun ov iv wr => ∃ (k : Nat) (vo : Value), k ≤ n ∧ iv = .int .i64 k ∧ vo = ov ∧ Hid (wr.ownsRow w.heap.size 9 1 vo k (((partsV L).take k).map .string)) ∧ Hid (Below w.heap.size w wr)) (fun _ iv _ => n - (intOf iv).toNat)
  case atStart => exact ⟨0, _, Nat.zero_le _, rfl, rfl, HO, HB⟩
  case round =>
    obtain ⟨k, vo, hk, rfl, rfl, HO, HBk⟩ := hrel
    by_cases hlt : k < n
    · skip
      have hltL : k < L.length := by rw [HN.out]; exact hlt
      obtain ⟨b, o, x, y, rfl, c0, c1, c2, hrr⟩ := R.out k hltL
      have d0 := (HBk.out.cell (World.block_lt_of_cell? w _ c0)).trans c0
      have d1 := (HBk.out.cell (World.block_lt_of_cell? w _ c1)).trans c1
      have d2 := (HBk.out.cell (World.block_lt_of_cell? w _ c2)).trans c2
      have RR := Lib.hid (hrr.below HBk.out)
      obtain ⟨a1, r1, a2, r2, rfl, rfl, hz1, hz2⟩ := rowR_len hrr
      clear c0 c1 c2 R hrr
      go_wp2_with fail
      have bA := (Below.refl wr.heap.size wr).alloc (Nat.le_refl _) (.cells #[.bool (L[k]'hltL).neg, .slice a1 (L[k]'hltL).mag.length r1, .slice a2 (L[k]'hltL).den.length r2] 43)
      refine (spec_ratFormat (L[k]'hltL).neg _ _ _ _ _ (RR.out.below bA)).mono ?_
      rintro e w_r ⟨rfl, b_r⟩
      have B3 := Lib.hid (HBk.out.trans ((bA.trans (b_r.mono (by simp))).mono HBk.out.size))
      have O3 := Lib.hid (ownsRow_below HO.out (bA.trans (b_r.mono (by simp))))
      have hc1 : k + 1 ≤ 8796093022208 := by omega
      have hc2 : ∀ o, w.heap.size ≤ (w_r.alloc o).heap.size := fun o => by have := B3.out.size; simp; omega
      clear b_r bA
      go_wp2_with (at_builtin; refine append_str rfl _ _ rfl w.heap.size _ _ _ (ratText (L[k]'hltL).neg (L[k]'hltL).mag (L[k]'hltL).den) ⟨w_r.heap.size, 0, none⟩ rfl (O3.out.alloc _) rfl (cell_one_new _ _ _) hc1 (hc2 _) ?_; intro v' w1 h1 hg1)
      exact ⟨⟨k + 1, v', by omega, by go_num, rfl, Lib.hid (by rw [parts_take hltL]; exact h1), Lib.hid ((B3.out.alloc B3.out.size _).grown hg1 (hc2 _) fun g hg => (O3.out.lt g hg).1)⟩, by simp [intOf]; omega⟩
    · obtain rfl : k = n := by omega
      have hT1 : (partsV L).take k = partsV L := List.take_of_length_le (Nat.le_of_eq HPL.out)
      rw [hT1] at HO
      have HR := ownsRow_row (f := Value.string) HO.out
      have HJn := spec_join vo (partsV L) ⟨#[32]⟩ wr HR HJ.out (by show (1 : Nat) ≤ 140737488355328; omega) (fun j hj => by have := parts_size L _ (List.getElem_mem hj); omega)
      go_wp2_with fail
      refine HJn.mono ?_
      rintro e w2 ⟨rfl, h2⟩
      replace h2 := h2.symm
      subst h2
      go_wp2
      go_ret
      exact ⟨by rw [HT.out]; rfl, HBk.out⟩

def emptyS (n : Nat) : Obj := .cells ((List.replicate n (⟨#[]⟩ : ByteArray)).map Value.string).toArray 9
theorem make_strs (n : Nat) (hn : n ≤ 1099511627776) (w : World) : (Instr.makeSlice 39 (.int .i64 (n : Int)) (.int .i64 (n : Int))).run Tryz.prog w = .ok (.slice (some ⟨w.heap.size, 0, none⟩) n n) (w.alloc (emptyS n)) := by
  obtain ⟨i0, hi, hz0, hz1, hz2⟩ := info_parts info_string
  have := run_make (P := Tryz.prog) w 39 9 i0 _ Tryz.underlying39 hi hz0 .i64 .i64 n n (by omega) (Int.le_refl _) (by rw [hz2]; omega) (by omega)
  rw [this, hz1]
  have e : madeCells #[Value.string ⟨#[]⟩] n = ((List.replicate n (⟨#[]⟩ : ByteArray)).map Value.string).toArray := by
    apply Array.ext
    · simp [madeCells]
    · intro i h1 h2
      simp [madeCells, Nat.mod_one]
  simp [Value.cells, e, emptyS]
theorem grow_setS {P : List ByteArray} {n k : Nat} (hP : P.length = k) (hk : k < n) (s e : ByteArray) : (P ++ List.replicate (n - k) e).set k s = (P ++ [s]) ++ List.replicate (n - (k + 1)) e := by
  obtain ⟨m, rfl⟩ : ∃ m, n = k + 1 + m := ⟨n - (k + 1), by omega⟩
  rw [show k + 1 + m - k = m + 1 by omega, show k + 1 + m - (k + 1) = m by omega, List.set_append_right _ _ (by omega), hP, Nat.sub_self, List.replicate_succ, List.set_cons_zero]
  simp

set_option maxRecDepth 100000 in
set_option maxHeartbeats 2000000 in
theorem impl_formatV (v : Value) (L : List Fr) (w : World) (htab : Lib.TabIs Tryz.prog w "internal/strconv.uint64pow10" .u64 Lib.pow10Tab) (h : RatsAt w v L) :
    Calls Tryz.prog 8 #[v] w fun e w' => e = .returned (.string (vecT L)) ∧ Below w.heap.size w w' := by
  have KV := Lib.hid (fun (W : World) (hW : Below w.heap.size w W) => impl_isV v L W (h.below hW))
  have HTab := Lib.hid htab
  clear htab
  obtain ⟨a, cap, rfl, hc, hm, hr⟩ := h
  unfold maxLen at hm
  have R := Lib.hid hr
  clear hr
  obtain ⟨n, hnn⟩ : ∃ n, L.length = n := ⟨_, rfl⟩
  rw [hnn] at hc KV ⊢
  have HN := Lib.hid hnn
  clear hnn
  cases q : vecB ratOk L with
  | false =>
    rw [show vecT L = ⟨#[]⟩ by unfold vecT; rw [q]; rfl]
    rw [q] at KV
    go_enter Tryz.func8, Tryz.ntmps8
    go_wp2_with fail
    refine (KV.out _ (Below.refl _ _)).mono ?_
    rintro e w1 ⟨rfl, b1⟩
    have B1 := Lib.hid (b1)
    go_wp2
    go_ret
    exact ⟨rfl, B1.out⟩
  | true =>
  have hl := vec_len q
  rw [show vecT L = ⟨(joinK (partsV L) sepV (partsV L).length).toArray⟩ by unfold vecT; rw [q]; rfl]
  have HPL := Lib.hid (show (partsV L).length = n by unfold partsV; rw [List.length_map]; exact HN.out)
  have HJ := Lib.hid (partsV_join hl)
  rw [HN.out] at hl
  rw [q] at KV
  clear q
  obtain ⟨T, hT⟩ : ∃ x, x = (⟨(joinK (partsV L) sepV (partsV L).length).toArray⟩ : ByteArray) := ⟨_, rfl⟩
  rw [← hT]
  have HT := Lib.hid hT
  clear hT
  go_enter Tryz.func8, Tryz.ntmps8
  go_wp2_with fail
  refine (KV.out _ (Below.refl _ _)).mono ?_
  rintro e w1 ⟨rfl, b1⟩
  have B1 := Lib.hid b1
  clear b1
  have HM := make_strs n (by omega) w1
  go_wp2_with fail
  obtain ⟨W2, hW2⟩ : ∃ x, x = w1.alloc (emptyS n) := ⟨_, rfl⟩
  obtain ⟨g, hg⟩ : ∃ x, x = w1.heap.size := ⟨_, rfl⟩
  have HO := Lib.hid (show W2.ownsRow w.heap.size 9 1 (.slice (some ⟨g, 0, none⟩) n n) n (((partsV L).take 0 ++ List.replicate (n - 0) (⟨#[]⟩ : ByteArray)).map Value.string) by rw [hW2, hg]; exact World.ownsRow_lit (e := 9) (size := 1) w1 _ n B1.out.size (by unfold maxLen; omega) (by simp))
  have HB := Lib.hid (show Below w.heap.size w W2 by rw [hW2]; exact B1.out.alloc B1.out.size _)
  have HG := Lib.hid (show w.heap.size ≤ g by rw [hg]; exact B1.out.size)
  rw [← hW2, ← hg]
  clear hW2 HM hg B1
  go_loopw [14] (fun iv wr => ∃ (k : Nat), k ≤ n ∧ iv = .int .i64 k ∧ Hid (wr.ownsRow w.heap.size 9 1 (.slice (some ⟨g, 0, none⟩) n n) n (((partsV L).take k ++ List.replicate (n - k) (⟨#[]⟩ : ByteArray)).map Value.string)) ∧ Hid (Below w.heap.size w wr)) (fun iv _ => n - (intOf iv).toNat)
  case atStart => exact ⟨0, Nat.zero_le _, rfl, HO, HB⟩
  case round =>
    obtain ⟨k, hk, rfl, HO, HBk⟩ := hrel
    by_cases hlt : k < n
    · skip
      have hltL : k < L.length := by rw [HN.out]; exact hlt
      obtain ⟨b, o, x, y, rfl, c0, c1, c2, hrr⟩ := R.out k hltL
      have d0 := (HBk.out.cell (World.block_lt_of_cell? w _ c0)).trans c0
      have d1 := (HBk.out.cell (World.block_lt_of_cell? w _ c1)).trans c1
      have d2 := (HBk.out.cell (World.block_lt_of_cell? w _ c2)).trans c2
      have RR := Lib.hid (hrr.below HBk.out)
      obtain ⟨a1, r1, a2, r2, rfl, rfl, hz1, hz2⟩ := rowR_len hrr
      clear c0 c1 c2 R hrr
      go_wp2_with fail
      have bA := (Below.refl wr.heap.size wr).alloc (Nat.le_refl _) (.cells #[.bool (L[k]'hltL).neg, .slice a1 (L[k]'hltL).mag.length r1, .slice a2 (L[k]'hltL).den.length r2] 43)
      refine (impl_ratFormat (L[k]'hltL).neg _ _ _ _ _ (tab_below (HBk.out.alloc HBk.out.size _) HTab.out) (RR.out.below bA)).mono ?_
      rintro e w_r ⟨rfl, b_r⟩
      have B3 := Lib.hid (HBk.out.trans ((bA.trans (b_r.mono (by simp))).mono HBk.out.size))
      have O3 := ownsRow_below HO.out (bA.trans (b_r.mono (by simp)))
      have hPk : ((partsV L).take k).length = k := by rw [List.length_take, HPL.out]; omega
      have hlen : (((partsV L).take k ++ List.replicate (n - k) (⟨#[]⟩ : ByteArray)).map Value.string).length = n := by rw [List.length_map, List.length_append, hPk, List.length_replicate]; omega
      obtain ⟨u0, s0⟩ : ∃ u, w_r.cell? ⟨g, k, none⟩ = some u := ⟨_, (O3.cellAt k (by omega)).trans (List.getElem?_eq_getElem (by omega))⟩
      have t0 := O3.frozenAt k
      have O4 := (O3.stored k (.string (fmtF (L[k]'hltL)))).1
      rw [← List.map_set, grow_setS hPk hlt, ← parts_take hltL] at O4
      have B4 := B3.out.setCell (p := ⟨g, k, none⟩) HG.out (.string (fmtF (L[k]'hltL)))
      have O5 := Lib.hid O4
      have B5 := Lib.hid B4
      have hF : ratText (L[k]'hltL).neg (L[k]'hltL).mag (L[k]'hltL).den = fmtF (L[k]'hltL) := rfl
      rw [hF]
      clear O4 B4 O3 b_r bA hPk hlen hF
      go_wp2_with fail
      exact ⟨⟨k + 1, by omega, by go_num, O5, B5⟩, by simp [intOf]; omega⟩
    · obtain rfl : k = n := by omega
      have hT1 : (partsV L).take k = partsV L := List.take_of_length_le (Nat.le_of_eq HPL.out)
      rw [hT1, Nat.sub_self, List.replicate_zero, List.append_nil] at HO
      have HR := ownsRow_row (f := Value.string) HO.out
      have HJn := impl_join _ (partsV L) ⟨#[32]⟩ wr HR (HJ.out _) (by rw [HPL.out]; omega)
      go_wp2_with fail
      refine HJn.mono ?_
      rintro e w2 ⟨rfl, b2⟩
      have B2 := Lib.hid (HBk.out.trans (b2.mono HBk.out.size))
      go_wp2
      go_ret
      exact ⟨by rw [HT.out]; rfl, B2.out⟩

end Go.Proofs.YtdajldenjeanhaaGreatDoor
