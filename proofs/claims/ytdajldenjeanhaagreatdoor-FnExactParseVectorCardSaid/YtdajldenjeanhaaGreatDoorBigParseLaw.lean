/- ParseBigInt of the program and of the model; its exact law. -/
import Derived.Test.YtdajldenjeanhaaGreatDoorSigned
import Derived.Test.YtdajldenjeanhaaGreatDoorReads
import Derived.RangeFuncBox
namespace Go.Proofs.YtdajldenjeanhaaGreatDoor
open Go.RowKit

set_option maxRecDepth 100000
theorem big_endP {w wn : World} {p B : Nat} {v : Value} {l : List Int} (hB : Below w.heap.size w wn) (ho : OwnI wn B v l) (hp : p < B) (h1 : w.heap.size ≤ B) (h2 : w.heap.size ≤ p) (x y : Value) :
    OwnI ((wn.setCell ⟨p, 0, none⟩ x).setCell ⟨p, 1, none⟩ y) w.heap.size v l ∧ Below w.heap.size w ((wn.setCell ⟨p, 0, none⟩ x).setCell ⟨p, 1, none⟩ y) :=
  ⟨((ho.old hp 0 x).old hp 1 y).base h1, (hB.setCell h2 x).setCell h2 y⟩
theorem big_endN {w wn : World} {p : Nat} (hB : Below w.heap.size w wn) (h2 : w.heap.size ≤ p) (x y : Value) :
    OwnI ((wn.setCell ⟨p, 0, none⟩ x).setCell ⟨p, 1, none⟩ y) w.heap.size (.slice none 0 0) [] ∧ Below w.heap.size w ((wn.setCell ⟨p, 0, none⟩ x).setCell ⟨p, 1, none⟩ y) :=
  ⟨OwnI.nil _ _, (hB.setCell h2 x).setCell h2 y⟩
/-- a minus sign ahead, and what follows it -/
def minB (s : ByteArray) : Bool := decide (s.data.toList.head? = some 45)
def minT (s : ByteArray) : ByteArray := if minB s then s.extract 1 s.size else s
def pbOk (s : ByteArray) : Bool := numB (minT s) && (!minB s || decide (0 < (parseL (minT s)).length))
def pbB (s : ByteArray) : Bool := pbOk s && minB s
def pbL (s : ByteArray) : List Int := if pbOk s then parseL (minT s) else []
theorem pbL_len (s : ByteArray) : (pbL s).length ≤ 1000 := by
  unfold pbL
  split
  · exact parseL_len _
  · simp
theorem pb_no {s : ByteArray} (h : pbOk s = false) : pbB s = false ∧ pbL s = [] := by unfold pbB pbL; rw [h]; exact ⟨rfl, rfl⟩
theorem pb_yes {s : ByteArray} (h : pbOk s = true) : pbB s = minB s ∧ pbL s = parseL (minT s) := by unfold pbB pbL; rw [h]; exact ⟨rfl, rfl⟩
theorem minT_yes {s : ByteArray} (h : minB s = true) : minT s = s.extract 1 s.size := by unfold minT; rw [h]; rfl
theorem minT_no {s : ByteArray} (h : minB s = false) : minT s = s := by unfold minT; rw [h]; rfl
theorem pbOk_num {s : ByteArray} (h : numB (minT s) = false) : pbOk s = false := by unfold pbOk; rw [h]; rfl
theorem pbOk_plain {s : ByteArray} (h : numB (minT s) = true) (h1 : minB s = false) : pbOk s = true := by unfold pbOk; rw [h, h1]; rfl
theorem pbOk_neg {s : ByteArray} (h : numB (minT s) = true) (h1 : minB s = true) : pbOk s = decide (0 < (parseL (minT s)).length) := by unfold pbOk; rw [h, h1]; rfl
theorem minT_size (s : ByteArray) : (minT s).size ≤ s.size := by
  unfold minT
  split
  · rw [ByteArray.size_extract]; omega
  · omega
theorem okB_parse (s : ByteArray) : okB (parseL s) = true := by
  unfold parseL
  split
  · rename_i h
    obtain ⟨h1, h2, h3⟩ := numB_parts h
    refine okB_limI ((nlen_le_iff _ _).1 ?_)
    have := dv_nlen (l := s.data.toList) (digB_digs h1) (k := 60) (by rw [sz_list]; omega)
    unfold numV; exact this
  · exact okB_nil rfl
theorem bigOk_parse {s : ByteArray} (h : numB (minT s) = true) : bigOk (minB s) (parseL (minT s)) = pbOk s := by
  unfold bigOk pbOk
  rw [okB_parse, h]
/-- how the tests of the texts read -/
theorem min_cases (s : ByteArray) : (s.size = 0 ∧ minB s = false) ∨ (∃ (h0 : 0 < s.size) (c : Nat), (s[0]'h0).toNat = c ∧ ((((c : Int) == 45) = true ∧ minB s = true ∧ s.extract 0 1 = ⟨#[45]⟩) ∨ (((c : Int) == 45) = false ∧ minB s = false ∧ ((s.extract 0 1).toList == [45]) = false))) := by
  by_cases h0 : 0 < s.size
  · right
    refine ⟨h0, _, rfl, ?_⟩
    have hh := head_get h0
    have hx : s.extract 0 1 = ⟨#[s[0]'h0]⟩ := by
      apply ByteArray.ext
      apply Array.toList_inj.1
      rw [ext_list, List.drop_zero]
      have hl : 0 < s.data.toList.length := by rw [sz_list]; exact h0
      rw [show (1 : Nat) = 0 + 1 from rfl, List.take_succ_eq_append_getElem hl]
      rfl
    by_cases e : s[0]'h0 = 45
    · left
      refine ⟨by rw [e]; rfl, ?_, by rw [hx, e]⟩
      unfold minB
      rw [hh, e]; rfl
    · right
      have e2 : (s[0]'h0).toNat ≠ 45 := fun h => e (UInt8.toNat_inj.1 h)
      refine ⟨by rw [beq_eq_false_iff_ne]; intro h; exact e2 (by omega), ?_, ?_⟩
      · unfold minB
        rw [hh]
        exact decide_eq_false (fun h => e (by injection h))
      · rw [hx, ByteArray.toList_eq, beq_eq_false_iff_ne]
        intro h
        injection h with h _
        exact e h
  · left
    refine ⟨by omega, ?_⟩
    unfold minB
    have : s.data.toList = [] := List.eq_nil_of_length_eq_zero (by rw [sz_list]; omega)
    rw [this]; rfl

set_option maxHeartbeats 1000000 in
theorem has_minus (s : ByteArray) (w : World) (hs : s.size ≤ 1048576) :
    Calls Tryz.prog 104 #[.string s, .string ⟨#[45]⟩] w fun e w' => e = .returned (.bool (minB s)) ∧ w' = w := by
  have h45 : (⟨#[45]⟩ : ByteArray).size = 1 := rfl
  rcases min_cases s with ⟨h0, hm⟩ | ⟨h0, c, hc, ⟨h1, hm, hx⟩ | ⟨h1, hm, hx⟩⟩
  all_goals
    rw [hm]
    clear hm
    go_enter Tryz.func104, Tryz.ntmps104
    go_wp2
    go_ret
    exact ⟨rfl, rfl⟩

set_option maxHeartbeats 1000000 in
theorem cut_minus1 (s : ByteArray) (w : World) (hs : s.size ≤ 1048576) :
    Calls Tryz.prog 79 #[.string s, .string ⟨#[45]⟩] w fun e w' => e = .returned (.tuple #[.string (minT s), .bool (minB s)]) ∧ w' = w := by
  have h45 : (⟨#[45]⟩ : ByteArray).size = 1 := rfl
  have K := Lib.hid (has_minus s w hs)
  cases hm : minB s with
  | false =>
    rw [hm] at K
    have HT := Lib.hid (minT_no hm)
    rw [HT.out]
    clear hm
    go_enter Tryz.func79, Tryz.ntmps79
    go_wp2_with (go_at_call 104; refine K.out.mono ?_; rintro e w' ⟨rfl, rfl⟩)
    go_ret2
    exact ⟨rfl, rfl⟩
  | true =>
    rw [hm] at K
    have HT := Lib.hid (minT_yes hm)
    have h0 : 0 < s.size := by
      rcases min_cases s with ⟨h0, h1⟩ | ⟨h0, _⟩
      · rw [hm] at h1; exact absurd h1 (by decide)
      · exact h0
    rw [HT.out]
    clear hm
    go_enter Tryz.func79, Tryz.ntmps79
    go_wp2_with (go_at_call 104; refine K.out.mono ?_; rintro e w' ⟨rfl, rfl⟩)
    go_ret2
    exact ⟨rfl, rfl⟩

set_option maxHeartbeats 1000000 in
theorem cut_minus (s : ByteArray) (w : World) (hs : s.size ≤ 1048576) :
    Calls Tryz.prog 63 #[.string s, .string ⟨#[45]⟩] w fun e w' => e = .returned (.tuple #[.string (minT s), .bool (minB s)]) ∧ w' = w := by
  have h45 : (⟨#[45]⟩ : ByteArray).size = 1 := rfl
  have K := Lib.hid (cut_minus1 s w hs)
  go_enter Tryz.func63, Tryz.ntmps63
  go_wp2_with (go_at_call 79; refine K.out.mono ?_; rintro e w' ⟨rfl, rfl⟩)
  go_ret2
  exact ⟨rfl, rfl⟩

set_option maxHeartbeats 2000000 in
theorem spec_bigParse (s : ByteArray) (w : World) (hs : s.size ≤ 1048576) :
    Calls Tryz.prog 44 #[.string s] w fun e w' => ∃ v, e = .returned (.tuple #[.agg #[.bool (pbB s), v], .bool (pbOk s)]) ∧ OwnI w' w.heap.size v (pbL s) ∧ Below w.heap.size w w' := by
  have TP := Lib.hid (fun W => spec_parseNat (minT s) W (by have := minT_size s; omega))
  have hcs := min_cases s
  have hx0 : minB s = false → minT s = s := minT_no
  have hx1 : minB s = true → minT s = s.extract 1 s.size := minT_yes
  have PP : Hid (∀ (hn : numB (minT s) = false), pbOk s = false) := fun h => pbOk_num h
  rcases hcs with ⟨h0, hm⟩ | ⟨h0, c, hc, ⟨h1, hm, _⟩ | ⟨h1, hm, _⟩⟩
  · have HT := hx0 hm
    clear hx0 hx1 PP
    cases hn : numB (minT s) with
    | false =>
      have HP := pb_no (pbOk_num hn)
      rw [HP.1, HP.2, pbOk_num hn]
      rw [hn] at TP
      rw [HT] at TP
      clear HP hn
      go_enter Tryz.func44, Tryz.ntmps44
      go_wp2_with fail
      obtain ⟨W0, hW0⟩ : ∃ x, x = w.alloc (.cells #[.bool false, .slice none 0 0] 41) := ⟨_, rfl⟩
      have B := Lib.hid (show Below w.heap.size w W0 by rw [hW0]; exact ((Below.refl _ _).alloc (Nat.le_refl _) _))
      have D_r := Lib.hid (bx_at (show Bx W0 _ 41 false (.slice none 0 0) by rw [hW0]; exact Bx.new _ _ _ _) (show w.heap.size = _ by simp))
      have SZ := Lib.hid (show W0.heap.size = w.heap.size + 1 by rw [hW0]; simp)
      rw [← hW0]
      clear hW0
      refine (TP.out _).mono ?_
      rintro e w1 ⟨v_q, rfl, o_q, bw1⟩
      obtain ⟨a_q, c_q, rfl⟩ := o_q.slice
      replace D_r := Lib.hid (D_r.out.below bw1)
      have Z1 := Lib.hid bw1.size
      replace B := Lib.hid (B.out.trans (bw1.mono B.out.size))
      have O_q := Lib.hid o_q
      clear o_q
      clear bw1
      have c0_r := D_r.out.c0
      have c1_r := D_r.out.c1
      have f0_r := D_r.out.f0
      have f1_r := D_r.out.f1
      go_wp2
      obtain ⟨e1, e2⟩ := big_endN B.out (Nat.le_refl w.heap.size) (.bool false) (.slice none 0 0)
      exact bodyPost_ret (v := .tuple #[.agg #[.bool false, .slice none 0 0], .bool false]) (by simp [results, Tryz.results44, go_sem, c0_r, c1_r]) rfl ⟨_, rfl, e1, e2⟩
    | true =>
      have hok := pbOk_plain hn hm
      have HP := pb_yes hok
      rw [HP.1, HP.2, hok, hm]
      rw [hn] at TP
      rw [HT] at TP ⊢
      clear HP hn hok
      go_enter Tryz.func44, Tryz.ntmps44
      go_wp2_with fail
      obtain ⟨W0, hW0⟩ : ∃ x, x = w.alloc (.cells #[.bool false, .slice none 0 0] 41) := ⟨_, rfl⟩
      have B := Lib.hid (show Below w.heap.size w W0 by rw [hW0]; exact ((Below.refl _ _).alloc (Nat.le_refl _) _))
      have D_r := Lib.hid (bx_at (show Bx W0 _ 41 false (.slice none 0 0) by rw [hW0]; exact Bx.new _ _ _ _) (show w.heap.size = _ by simp))
      have SZ := Lib.hid (show W0.heap.size = w.heap.size + 1 by rw [hW0]; simp)
      rw [← hW0]
      clear hW0
      refine (TP.out _).mono ?_
      rintro e w1 ⟨v_q, rfl, o_q, bw1⟩
      obtain ⟨a_q, c_q, rfl⟩ := o_q.slice
      replace D_r := Lib.hid (D_r.out.below bw1)
      have Z1 := Lib.hid bw1.size
      replace B := Lib.hid (B.out.trans (bw1.mono B.out.size))
      have O_q := Lib.hid o_q
      clear o_q
      clear bw1
      have c0_r := D_r.out.c0
      have c1_r := D_r.out.c1
      have f0_r := D_r.out.f0
      have f1_r := D_r.out.f1
      go_wp2
      obtain ⟨e1, e2⟩ := big_endP (p := w.heap.size) B.out O_q.out (by have := SZ.out; omega) (by have := SZ.out; omega) (Nat.le_refl _) (.bool false) (.slice a_q (parseL s).length c_q)
      exact bodyPost_ret (v := .tuple #[.agg #[.bool false, .slice a_q (parseL s).length c_q], .bool true]) (by simp [results, Tryz.results44, go_sem, c0_r, c1_r]) rfl ⟨_, rfl, e1, e2⟩
  · have HT := hx1 hm
    clear hx0 hx1 PP
    cases hn : numB (minT s) with
    | false =>
      have HP := pb_no (pbOk_num hn)
      rw [HP.1, HP.2, pbOk_num hn]
      rw [hn] at TP
      rw [HT] at TP
      clear HP hn
      go_enter Tryz.func44, Tryz.ntmps44
      go_wp2_with fail
      obtain ⟨W0, hW0⟩ : ∃ x, x = w.alloc (.cells #[.bool false, .slice none 0 0] 41) := ⟨_, rfl⟩
      have B := Lib.hid (show Below w.heap.size w W0 by rw [hW0]; exact ((Below.refl _ _).alloc (Nat.le_refl _) _))
      have D_r := Lib.hid (bx_at (show Bx W0 _ 41 false (.slice none 0 0) by rw [hW0]; exact Bx.new _ _ _ _) (show w.heap.size = _ by simp))
      have SZ := Lib.hid (show W0.heap.size = w.heap.size + 1 by rw [hW0]; simp)
      rw [← hW0]
      clear hW0
      refine (TP.out _).mono ?_
      rintro e w1 ⟨v_q, rfl, o_q, bw1⟩
      obtain ⟨a_q, c_q, rfl⟩ := o_q.slice
      replace D_r := Lib.hid (D_r.out.below bw1)
      have Z1 := Lib.hid bw1.size
      replace B := Lib.hid (B.out.trans (bw1.mono B.out.size))
      have O_q := Lib.hid o_q
      clear o_q
      clear bw1
      have c0_r := D_r.out.c0
      have c1_r := D_r.out.c1
      have f0_r := D_r.out.f0
      have f1_r := D_r.out.f1
      go_wp2
      obtain ⟨e1, e2⟩ := big_endN B.out (Nat.le_refl w.heap.size) (.bool false) (.slice none 0 0)
      exact bodyPost_ret (v := .tuple #[.agg #[.bool false, .slice none 0 0], .bool false]) (by simp [results, Tryz.results44, go_sem, c0_r, c1_r]) rfl ⟨_, rfl, e1, e2⟩
    | true =>
      have hok := pbOk_neg hn hm
      by_cases hl : 0 < (parseL (minT s)).length
      · rw [decide_eq_true hl] at hok
        have HP := pb_yes hok
        rw [HP.1, HP.2, hok, hm]
        rw [hn] at TP
        rw [HT] at TP hl ⊢
        clear HP hn hok
        have hlz : ¬ (parseL (s.extract 1 s.size)).length = 0 := by omega
        go_enter Tryz.func44, Tryz.ntmps44
        go_wp2_with fail
        obtain ⟨W0, hW0⟩ : ∃ x, x = w.alloc (.cells #[.bool false, .slice none 0 0] 41) := ⟨_, rfl⟩
        have B := Lib.hid (show Below w.heap.size w W0 by rw [hW0]; exact ((Below.refl _ _).alloc (Nat.le_refl _) _))
        have D_r := Lib.hid (bx_at (show Bx W0 _ 41 false (.slice none 0 0) by rw [hW0]; exact Bx.new _ _ _ _) (show w.heap.size = _ by simp))
        have SZ := Lib.hid (show W0.heap.size = w.heap.size + 1 by rw [hW0]; simp)
        rw [← hW0]
        clear hW0
        refine (TP.out _).mono ?_
        rintro e w1 ⟨v_q, rfl, o_q, bw1⟩
        obtain ⟨a_q, c_q, rfl⟩ := o_q.slice
        replace D_r := Lib.hid (D_r.out.below bw1)
        have Z1 := Lib.hid bw1.size
        replace B := Lib.hid (B.out.trans (bw1.mono B.out.size))
        have O_q := Lib.hid o_q
        clear o_q
        clear bw1
        have c0_r := D_r.out.c0
        have c1_r := D_r.out.c1
        have f0_r := D_r.out.f0
        have f1_r := D_r.out.f1
        go_wp2
        obtain ⟨e1, e2⟩ := big_endP (p := w.heap.size) B.out O_q.out (by have := SZ.out; omega) (by have := SZ.out; omega) (Nat.le_refl _) (.bool true) (.slice a_q (parseL (s.extract 1 s.size)).length c_q)
        exact bodyPost_ret (v := .tuple #[.agg #[.bool true, .slice a_q (parseL (s.extract 1 s.size)).length c_q], .bool true]) (by simp [results, Tryz.results44, go_sem, c0_r, c1_r]) rfl ⟨_, rfl, e1, e2⟩
      · rw [decide_eq_false hl] at hok
        have HP := pb_no hok
        rw [HP.1, HP.2, hok]
        rw [hn] at TP
        rw [HT] at TP hl
        clear HP hn hok
        have hlz : (parseL (s.extract 1 s.size)).length = 0 := by omega
        clear hl
        rw [List.eq_nil_of_length_eq_zero hlz] at TP
        clear hlz
        go_enter Tryz.func44, Tryz.ntmps44
        go_wp2_with fail
        obtain ⟨W0, hW0⟩ : ∃ x, x = w.alloc (.cells #[.bool false, .slice none 0 0] 41) := ⟨_, rfl⟩
        have B := Lib.hid (show Below w.heap.size w W0 by rw [hW0]; exact ((Below.refl _ _).alloc (Nat.le_refl _) _))
        have D_r := Lib.hid (bx_at (show Bx W0 _ 41 false (.slice none 0 0) by rw [hW0]; exact Bx.new _ _ _ _) (show w.heap.size = _ by simp))
        have SZ := Lib.hid (show W0.heap.size = w.heap.size + 1 by rw [hW0]; simp)
        rw [← hW0]
        clear hW0
        refine (TP.out _).mono ?_
        rintro e w1 ⟨v_q, rfl, o_q, bw1⟩
        obtain ⟨a_q, c_q, rfl⟩ := o_q.slice
        replace D_r := Lib.hid (D_r.out.below bw1)
        have Z1 := Lib.hid bw1.size
        replace B := Lib.hid (B.out.trans (bw1.mono B.out.size))
        have O_q := Lib.hid o_q
        clear o_q
        clear bw1
        have c0_r := D_r.out.c0
        have c1_r := D_r.out.c1
        have f0_r := D_r.out.f0
        have f1_r := D_r.out.f1
        go_wp2
        obtain ⟨e1, e2⟩ := big_endN B.out (Nat.le_refl w.heap.size) (.bool false) (.slice none 0 0)
        exact bodyPost_ret (v := .tuple #[.agg #[.bool false, .slice none 0 0], .bool false]) (by simp [results, Tryz.results44, go_sem, c0_r, c1_r]) rfl ⟨_, rfl, e1, e2⟩
  · have HT := hx0 hm
    clear hx0 hx1 PP
    cases hn : numB (minT s) with
    | false =>
      have HP := pb_no (pbOk_num hn)
      rw [HP.1, HP.2, pbOk_num hn]
      rw [hn] at TP
      rw [HT] at TP
      clear HP hn
      go_enter Tryz.func44, Tryz.ntmps44
      go_wp2_with fail
      obtain ⟨W0, hW0⟩ : ∃ x, x = w.alloc (.cells #[.bool false, .slice none 0 0] 41) := ⟨_, rfl⟩
      have B := Lib.hid (show Below w.heap.size w W0 by rw [hW0]; exact ((Below.refl _ _).alloc (Nat.le_refl _) _))
      have D_r := Lib.hid (bx_at (show Bx W0 _ 41 false (.slice none 0 0) by rw [hW0]; exact Bx.new _ _ _ _) (show w.heap.size = _ by simp))
      have SZ := Lib.hid (show W0.heap.size = w.heap.size + 1 by rw [hW0]; simp)
      rw [← hW0]
      clear hW0
      refine (TP.out _).mono ?_
      rintro e w1 ⟨v_q, rfl, o_q, bw1⟩
      obtain ⟨a_q, c_q, rfl⟩ := o_q.slice
      replace D_r := Lib.hid (D_r.out.below bw1)
      have Z1 := Lib.hid bw1.size
      replace B := Lib.hid (B.out.trans (bw1.mono B.out.size))
      have O_q := Lib.hid o_q
      clear o_q
      clear bw1
      have c0_r := D_r.out.c0
      have c1_r := D_r.out.c1
      have f0_r := D_r.out.f0
      have f1_r := D_r.out.f1
      go_wp2
      obtain ⟨e1, e2⟩ := big_endN B.out (Nat.le_refl w.heap.size) (.bool false) (.slice none 0 0)
      exact bodyPost_ret (v := .tuple #[.agg #[.bool false, .slice none 0 0], .bool false]) (by simp [results, Tryz.results44, go_sem, c0_r, c1_r]) rfl ⟨_, rfl, e1, e2⟩
    | true =>
      have hok := pbOk_plain hn hm
      have HP := pb_yes hok
      rw [HP.1, HP.2, hok, hm]
      rw [hn] at TP
      rw [HT] at TP ⊢
      clear HP hn hok
      go_enter Tryz.func44, Tryz.ntmps44
      go_wp2_with fail
      obtain ⟨W0, hW0⟩ : ∃ x, x = w.alloc (.cells #[.bool false, .slice none 0 0] 41) := ⟨_, rfl⟩
      have B := Lib.hid (show Below w.heap.size w W0 by rw [hW0]; exact ((Below.refl _ _).alloc (Nat.le_refl _) _))
      have D_r := Lib.hid (bx_at (show Bx W0 _ 41 false (.slice none 0 0) by rw [hW0]; exact Bx.new _ _ _ _) (show w.heap.size = _ by simp))
      have SZ := Lib.hid (show W0.heap.size = w.heap.size + 1 by rw [hW0]; simp)
      rw [← hW0]
      clear hW0
      refine (TP.out _).mono ?_
      rintro e w1 ⟨v_q, rfl, o_q, bw1⟩
      obtain ⟨a_q, c_q, rfl⟩ := o_q.slice
      replace D_r := Lib.hid (D_r.out.below bw1)
      have Z1 := Lib.hid bw1.size
      replace B := Lib.hid (B.out.trans (bw1.mono B.out.size))
      have O_q := Lib.hid o_q
      clear o_q
      clear bw1
      have c0_r := D_r.out.c0
      have c1_r := D_r.out.c1
      have f0_r := D_r.out.f0
      have f1_r := D_r.out.f1
      go_wp2
      obtain ⟨e1, e2⟩ := big_endP (p := w.heap.size) B.out O_q.out (by have := SZ.out; omega) (by have := SZ.out; omega) (Nat.le_refl _) (.bool false) (.slice a_q (parseL s).length c_q)
      exact bodyPost_ret (v := .tuple #[.agg #[.bool false, .slice a_q (parseL s).length c_q], .bool true]) (by simp [results, Tryz.results44, go_sem, c0_r, c1_r]) rfl ⟨_, rfl, e1, e2⟩

set_option maxHeartbeats 2000000 in
theorem impl_bigParse (s : ByteArray) (w : World) (hs : s.size ≤ 1048576) :
    Calls Tryz.prog 47 #[.string s] w fun e w' => ∃ v, e = .returned (.tuple #[.agg #[.bool (pbB s), v], .bool (pbOk s)]) ∧ OwnI w' w.heap.size v (pbL s) ∧ Below w.heap.size w w' := by
  have TP := Lib.hid (fun W => impl_parseNat (minT s) W (by have := minT_size s; omega))
  have TC := Lib.hid (fun W => cut_minus s W hs)
  have TB := Lib.hid (fun (v : Value) W (h : RowOf iV W v (parseL (minT s))) => impl_bigOk (minB s) v (parseL (minT s)) W h)
  cases hn : numB (minT s) with
  | false =>
    have HP := pb_no (pbOk_num hn)
    rw [HP.1, HP.2, pbOk_num hn]
    rw [hn] at TP
    clear HP hn
    generalize minT s = u at *
    generalize minB s = mb at *
    go_enter Tryz.func47, Tryz.ntmps47
    go_wp2_with fail
    obtain ⟨W0, hW0⟩ : ∃ x, x = w.alloc (.cells #[.bool false, .slice none 0 0] 41) := ⟨_, rfl⟩
    have B := Lib.hid (show Below w.heap.size w W0 by rw [hW0]; exact ((Below.refl _ _).alloc (Nat.le_refl _) _))
    have D_r := Lib.hid (bx_at (show Bx W0 _ 41 false (.slice none 0 0) by rw [hW0]; exact Bx.new _ _ _ _) (show w.heap.size = _ by simp))
    have SZ := Lib.hid (show W0.heap.size = w.heap.size + 1 by rw [hW0]; simp)
    rw [← hW0]
    clear hW0
    refine (TC.out _).mono ?_
    rintro e w' ⟨rfl, hw⟩
    subst hw
    go_wp2_with fail
    refine (TP.out _).mono ?_
    rintro e w1 ⟨v_q, rfl, o_q, bw1⟩
    obtain ⟨a_q, c_q, rfl⟩ := o_q.slice
    replace D_r := Lib.hid (D_r.out.below bw1)
    have Z1 := Lib.hid bw1.size
    replace B := Lib.hid (B.out.trans (bw1.mono B.out.size))
    have O_q := Lib.hid o_q
    clear o_q
    clear bw1
    have hzz : w.heap.size < w1.heap.size := D_r.out.lt
    have c0_r := D_r.out.c0
    have c1_r := D_r.out.c1
    have f0_r := D_r.out.f0
    have f1_r := D_r.out.f1
    go_wp2
    obtain ⟨e1, e2⟩ := big_endN B.out (Nat.le_refl w.heap.size) (.bool false) (.slice none 0 0)
    exact bodyPost_ret (v := .tuple #[.agg #[.bool false, .slice none 0 0], .bool false]) (by simp [results, Tryz.results47, go_sem, c0_r, c1_r, hzz]) rfl ⟨_, rfl, OwnI.nil _ _, e2.alloc e2.size _⟩
  | true =>
    have hbo := bigOk_parse hn
    rw [hn] at TP
    rw [hbo] at TB
    cases hok : pbOk s with
    | false =>
      have HP := pb_no hok
      rw [HP.1, HP.2]
      rw [hok] at TB
      clear HP hn hok hbo
      generalize minT s = u at *
      generalize minB s = mb at *
      go_enter Tryz.func47, Tryz.ntmps47
      go_wp2_with fail
      obtain ⟨W0, hW0⟩ : ∃ x, x = w.alloc (.cells #[.bool false, .slice none 0 0] 41) := ⟨_, rfl⟩
      have B := Lib.hid (show Below w.heap.size w W0 by rw [hW0]; exact ((Below.refl _ _).alloc (Nat.le_refl _) _))
      have D_r := Lib.hid (bx_at (show Bx W0 _ 41 false (.slice none 0 0) by rw [hW0]; exact Bx.new _ _ _ _) (show w.heap.size = _ by simp))
      have SZ := Lib.hid (show W0.heap.size = w.heap.size + 1 by rw [hW0]; simp)
      rw [← hW0]
      clear hW0
      refine (TC.out _).mono ?_
      rintro e w' ⟨rfl, hw⟩
      subst hw
      go_wp2_with fail
      refine (TP.out _).mono ?_
      rintro e w1 ⟨v_q, rfl, o_q, bw1⟩
      obtain ⟨a_q, c_q, rfl⟩ := o_q.slice
      replace D_r := Lib.hid (D_r.out.below bw1)
      have Z1 := Lib.hid bw1.size
      replace B := Lib.hid (B.out.trans (bw1.mono B.out.size))
      have O_q := Lib.hid o_q
      clear o_q
      clear bw1
      have OX := Lib.hid (O_q.out.alloc (.cells #[.bool mb, .slice a_q (parseL u).length c_q] 41))
      have hzz : w.heap.size < w1.heap.size := D_r.out.lt
      go_wp2_with fail
      refine (TB.out _ _ OX.out.row).mono ?_
      rintro e w' ⟨rfl, hw⟩
      subst hw
      have c0_r := D_r.out.c0
      have c1_r := D_r.out.c1
      have f0_r := D_r.out.f0
      have f1_r := D_r.out.f1
      go_wp2
      obtain ⟨e1, e2⟩ := big_endN B.out (Nat.le_refl w.heap.size) (.bool false) (.slice none 0 0)
      exact bodyPost_ret (v := .tuple #[.agg #[.bool false, .slice none 0 0], .bool false]) (by simp [results, Tryz.results47, go_sem, c0_r, c1_r, hzz]) rfl ⟨_, rfl, OwnI.nil _ _, (e2.alloc e2.size _).alloc (Nat.le_trans e2.size (by simp)) _⟩
    | true =>
      have HP := pb_yes hok
      rw [HP.1, HP.2]
      rw [hok] at TB
      clear HP hn hok hbo
      generalize minT s = u at *
      generalize minB s = mb at *
      go_enter Tryz.func47, Tryz.ntmps47
      go_wp2_with fail
      obtain ⟨W0, hW0⟩ : ∃ x, x = w.alloc (.cells #[.bool false, .slice none 0 0] 41) := ⟨_, rfl⟩
      have B := Lib.hid (show Below w.heap.size w W0 by rw [hW0]; exact ((Below.refl _ _).alloc (Nat.le_refl _) _))
      have D_r := Lib.hid (bx_at (show Bx W0 _ 41 false (.slice none 0 0) by rw [hW0]; exact Bx.new _ _ _ _) (show w.heap.size = _ by simp))
      have SZ := Lib.hid (show W0.heap.size = w.heap.size + 1 by rw [hW0]; simp)
      rw [← hW0]
      clear hW0
      refine (TC.out _).mono ?_
      rintro e w' ⟨rfl, hw⟩
      subst hw
      go_wp2_with fail
      refine (TP.out _).mono ?_
      rintro e w1 ⟨v_q, rfl, o_q, bw1⟩
      obtain ⟨a_q, c_q, rfl⟩ := o_q.slice
      replace D_r := Lib.hid (D_r.out.below bw1)
      have Z1 := Lib.hid bw1.size
      replace B := Lib.hid (B.out.trans (bw1.mono B.out.size))
      have O_q := Lib.hid o_q
      clear o_q
      clear bw1
      have OX := Lib.hid (O_q.out.alloc (.cells #[.bool mb, .slice a_q (parseL u).length c_q] 41))
      have hzz : w.heap.size < w1.heap.size := D_r.out.lt
      go_wp2_with fail
      refine (TB.out _ _ OX.out.row).mono ?_
      rintro e w' ⟨rfl, hw⟩
      subst hw
      have c0_r := D_r.out.c0
      have c1_r := D_r.out.c1
      have f0_r := D_r.out.f0
      have f1_r := D_r.out.f1
      go_wp2
      obtain ⟨e1, e2⟩ := big_endP (p := w.heap.size) B.out O_q.out (by have := SZ.out; omega) (by have := SZ.out; omega) (Nat.le_refl _) (.bool mb) (.slice a_q (parseL u).length c_q)
      exact bodyPost_ret (v := .tuple #[.agg #[.bool mb, .slice a_q (parseL u).length c_q], .bool true]) (by simp [results, Tryz.results47, go_sem, c0_r, c1_r, hzz]) rfl ⟨_, rfl, (e1.alloc _).alloc _, (e2.alloc e2.size _).alloc (Nat.le_trans e2.size (by simp)) _⟩

end Go.Proofs.YtdajldenjeanhaaGreatDoor
