/- ParseRat of the program and of the model. -/
import Derived.Test.YtdajldenjeanhaaGreatDoorSlash
namespace Go.Proofs.YtdajldenjeanhaaGreatDoor
open Go.RowKit Go.WideShapes Go.ChangeShapes
set_option linter.unusedVariables false
set_option linter.unusedSimpArgs false

theorem ba_beq (a b : ByteArray) (h : a ≠ b) : (a == b) = false := by
  cases hb : a == b with
  | false => rfl
  | true => exact absurd ((MapKept.bytes_beq a b).1 hb) h
theorem ba_ne {a b : ByteArray} (h : a.size ≠ b.size) : (a == b) = false ∧ (a != b) = true := by
  have h1 : (a == b) = false := ba_beq a b (fun e => h (by rw [e]))
  exact ⟨h1, by unfold bne; rw [h1]; rfl⟩
theorem ba_neL {a b : ByteArray} (h : a.size ≠ b.size) : (a.toList == b.toList) = false := by
  have : a.toList ≠ b.toList := fun e => h (by rw [← sz_list, ← sz_list, ← ByteArray.toList_eq, ← ByteArray.toList_eq, e])
  exact beq_eq_false_iff_ne.2 this
theorem ba_ne0 {a : ByteArray} (h : 0 < a.size) : (a == ⟨#[]⟩) = false ∧ (a.toList == []) = false := by
  refine ⟨(ba_ne (b := ⟨#[]⟩) (by show a.size ≠ 0; omega)).1, ?_⟩
  have := sz_list a
  cases hl : a.toList with
  | nil => rw [ByteArray.toList_eq] at hl; rw [hl] at this; simp at this; omega
  | cons x r => rfl
theorem slash_join {s : ByteArray} (h : sQ s = true) : sTop s ++ ⟨#[47]⟩ ++ sBot s = s := by
  obtain ⟨hi, _, h2, h3, h4, _⟩ := sQ_yes h
  rw [h2, h3]
  have h5 : (⟨#[47]⟩ : ByteArray) = s.extract (sI s) (sI s + 1) := by
    apply ByteArray.ext_getElem
    · show 1 = _; rw [ByteArray.size_extract]; omega
    · intro k hk hk2
      have : k = 0 := by (have : k < 1 := hk); omega
      subst this
      rw [ByteArray.getElem_extract]
      show (47 : UInt8) = _
      simp only [Nat.add_zero]
      exact h4.symm
  rw [h5, ByteArray.extract_append_extract, Nat.min_eq_left (Nat.zero_le _), Nat.max_eq_right (Nat.le_succ _), ByteArray.extract_append_extract, Nat.min_eq_left (Nat.zero_le _), Nat.max_eq_right (by omega)]
  exact ByteArray.extract_zero_size
theorem ba_list {a : ByteArray} (h : 0 < a.size) : (a.data.toList == []) = false := by
  have := sz_list a
  cases hl : a.data.toList with
  | nil => rw [hl] at this; simp at this; omega
  | cons x r => rfl


set_option maxRecDepth 100000 in
set_option maxHeartbeats 2000000 in
theorem impl_ratParse (s : ByteArray) (w : World) (hs : s.size ≤ 1048576) :
    Calls Tryz.prog 26 #[.string s] w fun r w' => ∃ v dd, r = .returned (.tuple #[.agg #[.bool (prB s), v, dd], .bool (prOk s)]) ∧ OwnR w' w.heap.size v (prZ s) dd (prD s) ∧ Below w.heap.size w w' := by
  have CUT := Lib.hid (impl_cut s)
  have ht0 : (sTop s).size ≤ 1048576 := by unfold sTop; split; (rw [ByteArray.size_extract]; omega); omega
  have hb0 : (sBot s).size ≤ 1048576 := by unfold sBot; split; (rw [ByteArray.size_extract]; omega); decide
  have HS := Lib.hid hs
  have HT := Lib.hid ht0
  have HB := Lib.hid hb0
  clear hs ht0 hb0
  cases hq : sQ s with
  | false =>
    have QF := Lib.hid hq
    have hcut := CUT.out
    rw [hq] at hcut
    have hbt9 := (sQ_no hq).2.2.1
    have HONE : Hid (numB (sBot s) = true) := Lib.hid (by rw [hbt9]; exact one_num.1)
    have P1 : ∀ (W : World), (sTop s).size ≤ 1048576 → Calls Tryz.prog 47 #[.string (sTop s)] W fun e w' => ∃ v, e = .returned (.tuple #[.agg #[.bool (pbB (sTop s)), v], .bool (pbOk (sTop s))]) ∧ OwnI w' W.heap.size v (pbL (sTop s)) ∧ Below W.heap.size W w' := fun W h => impl_bigParse _ W h
    have P2 : ∀ (W : World), (sBot s).size ≤ 1048576 → Calls Tryz.prog 48 #[.string (sBot s)] W fun e w' => ∃ v, e = .returned (.tuple #[v, .bool (numB (sBot s))]) ∧ OwnI w' W.heap.size v (parseL (sBot s)) ∧ Below W.heap.size W w' := fun W h => impl_parseNat _ W h
    cases h1 : pbOk (sTop s) with
    | false =>
      have HP : prOk s = false := by unfold prOk; rw [h1]; rfl
      have HR := pr_no HP
      rw [HR.1, HR.2.1, HR.2.2, HP]
      clear HR HP
      rw [h1] at P1
      clear h1
      clear hq hbt9
      have hbt8 := (sQ_no QF.out).2.2.1
      rw [hbt8] at P2 HB
      try rw [hbt8] at LYE
      try rw [hbt8] at E3
      try rw [hbt8]
      obtain ⟨bx, hbx⟩ : ∃ t, pbB (sTop s) = t := ⟨_, rfl⟩
      obtain ⟨lx, hlx⟩ : ∃ t, pbL (sTop s) = t := ⟨_, rfl⟩
      obtain ⟨ly, hly⟩ : ∃ t, parseL (⟨#[49]⟩ : ByteArray) = t := ⟨_, rfl⟩
      rw [hbx, hlx] at P1
      rw [hly] at P2
      try rw [hbx, hlx, hly] at E3
      try rw [hly] at LYE
      try rw [hbx, hlx, hly]
      clear hbx hlx hly
      obtain ⟨tp, htp⟩ : ∃ t, sTop s = t := ⟨_, rfl⟩
      rw [htp] at P1 hcut HT
      clear htp
      replace CUT := Lib.hid hcut
      have C1 := Lib.hid P1
      have C2 := Lib.hid P2
      clear hcut P1 P2
      go_enter Tryz.func26, Tryz.ntmps26
      go_wp2_with fail
      obtain ⟨W0, hW0⟩ : ∃ x, x = (w.alloc (.cells #[.bool false, .slice none 0 0, .slice none 0 0] 43)) := ⟨_, rfl⟩
      have B := Lib.hid (show Below w.heap.size w W0 by rw [hW0]; exact ((Below.refl _ _).alloc (Nat.le_refl _) _))
      have D_r := Lib.hid (rx_at (show Rx W0 _ 43 (false) (.slice none 0 0) (.slice none 0 0) by rw [hW0]; exact Rx.new _ _ _ _ _) (show w.heap.size = _ by simp))
      have SZ := Lib.hid (show W0.heap.size = w.heap.size + 1 by rw [hW0]; simp)
      rw [← hW0]
      clear hW0
      have BB := Lib.hid (Below.refl W0.heap.size W0)
      refine (CUT.out _ HS.out).mono ?_
      rintro e w1 ⟨rfl, bw1⟩
      replace B := Lib.hid (B.out.trans (bw1.mono B.out.size))
      replace BB := Lib.hid (BB.out.trans (bw1.mono BB.out.size))
      clear bw1
      go_wp2_with fail
      refine (C1.out _ HT.out).mono ?_
      rintro e w2 ⟨v_x, rfl, o_x, bw2⟩
      obtain ⟨a_x, c_x, rfl⟩ := o_x.slice
      have O_x := Lib.hid (o_x.base BB.out.size)
      clear o_x
      replace B := Lib.hid (B.out.trans (bw2.mono B.out.size))
      replace BB := Lib.hid (BB.out.trans (bw2.mono BB.out.size))
      clear bw2
      go_wp2_with fail
      obtain ⟨W5, hW5⟩ : ∃ X9, X9 = w2.alloc (.cells #[.bool bx, .slice a_x lx.length c_x] 41) := ⟨_, rfl⟩
      have M_n := Lib.hid (show Bx W5 w2.heap.size 41 bx (.slice a_x lx.length c_x) by rw [hW5]; exact Bx.new _ _ _ _)
      replace O_x := Lib.hid (show OwnI W5 W0.heap.size _ _ by rw [hW5]; exact O_x.out.alloc _)
      replace BB := Lib.hid (show Below W0.heap.size W0 W5 by rw [hW5]; exact BB.out.alloc BB.out.size _)
      replace B := Lib.hid (show Below w.heap.size w W5 by rw [hW5]; exact B.out.alloc B.out.size _)
      rw [← hW5]
      clear hW5
      refine (C2.out _ HB.out).mono ?_
      rintro e w3 ⟨v_y, rfl, o_y, bw3⟩
      obtain ⟨a_y, c_y, rfl⟩ := o_y.slice
      have ap := apart_lo O_x.out (fun g hg => (o_y.lt g hg).1)
      replace O_x := Lib.hid (O_x.out.below bw3)
      replace M_n := Lib.hid (M_n.out.below bw3)
      have O_y := Lib.hid (o_y.base BB.out.size)
      clear o_y
      replace B := Lib.hid (B.out.trans (bw3.mono B.out.size))
      replace BB := Lib.hid (BB.out.trans (bw3.mono BB.out.size))
      clear bw3
      have AP := Lib.hid ap
      clear ap
      have c0_n := M_n.out.c0
      have c1_n := M_n.out.c1
      have DD9 := (D_r.out.below BB.out).alloc (.cells #[.bool bx, .slice a_x lx.length c_x, .slice a_y ly.length c_y] 43)
      have BB9 := B.out.alloc B.out.size (.cells #[.bool bx, .slice a_x lx.length c_x, .slice a_y ly.length c_y] 43)
      have y0 := DD9.c0; have y1 := DD9.c1; have y2 := DD9.c2; have y3 := DD9.f 0; have y4 := DD9.f 1; have y5 := DD9.f 2
      obtain ⟨e1, e2⟩ := rat_end (b' := false) BB9 DD9 (OwnR.nil _ W0.heap.size) (by decide) (by have := SZ.out; omega) (Nat.le_refl _) (.slice none 0 0) (.slice none 0 0)
      have D8 := Rx.set3 (b' := false) (v' := .slice none 0 0) (d' := .slice none 0 0) DD9
      have hc0 := D8.c0; have hc1 := D8.c1; have hc2 := D8.c2
      go_wp2
      exact bodyPost_ret (v := .tuple #[.agg #[.bool (false), .slice none 0 0, .slice none 0 0], .bool false]) (by simp [results, Tryz.results26, go_sem, hc0, hc1, hc2]) rfl ⟨_, _, rfl, e1, e2⟩

    | true =>
      have h2 := HONE.out
      cases h3 : ratOk (pbB (sTop s)) (pbL (sTop s)) (parseL (sBot s)) with
      | false =>
        have HP : prOk s = false := by unfold prOk; rw [h1, h2, h3]; rfl
        have HR := pr_no HP
        rw [HR.1, HR.2.1, HR.2.2, HP]
        clear HR HP
        have E3 := Lib.hid h3
        rw [h1] at P1
        rw [h2] at P2
        clear h1 h2 h3
        clear hq hbt9
        have hbt8 := (sQ_no QF.out).2.2.1
        rw [hbt8] at P2 HB
        try rw [hbt8] at LYE
        try rw [hbt8] at E3
        try rw [hbt8]
        obtain ⟨bx, hbx⟩ : ∃ t, pbB (sTop s) = t := ⟨_, rfl⟩
        obtain ⟨lx, hlx⟩ : ∃ t, pbL (sTop s) = t := ⟨_, rfl⟩
        obtain ⟨ly, hly⟩ : ∃ t, parseL (⟨#[49]⟩ : ByteArray) = t := ⟨_, rfl⟩
        rw [hbx, hlx] at P1
        rw [hly] at P2
        try rw [hbx, hlx, hly] at E3
        try rw [hly] at LYE
        try rw [hbx, hlx, hly]
        clear hbx hlx hly
        obtain ⟨tp, htp⟩ : ∃ t, sTop s = t := ⟨_, rfl⟩
        rw [htp] at P1 hcut HT
        clear htp
        replace CUT := Lib.hid hcut
        have C1 := Lib.hid P1
        have C2 := Lib.hid P2
        clear hcut P1 P2
        go_enter Tryz.func26, Tryz.ntmps26
        go_wp2_with fail
        obtain ⟨W0, hW0⟩ : ∃ x, x = (w.alloc (.cells #[.bool false, .slice none 0 0, .slice none 0 0] 43)) := ⟨_, rfl⟩
        have B := Lib.hid (show Below w.heap.size w W0 by rw [hW0]; exact ((Below.refl _ _).alloc (Nat.le_refl _) _))
        have D_r := Lib.hid (rx_at (show Rx W0 _ 43 (false) (.slice none 0 0) (.slice none 0 0) by rw [hW0]; exact Rx.new _ _ _ _ _) (show w.heap.size = _ by simp))
        have SZ := Lib.hid (show W0.heap.size = w.heap.size + 1 by rw [hW0]; simp)
        rw [← hW0]
        clear hW0
        have BB := Lib.hid (Below.refl W0.heap.size W0)
        refine (CUT.out _ HS.out).mono ?_
        rintro e w1 ⟨rfl, bw1⟩
        replace B := Lib.hid (B.out.trans (bw1.mono B.out.size))
        replace BB := Lib.hid (BB.out.trans (bw1.mono BB.out.size))
        clear bw1
        go_wp2_with fail
        refine (C1.out _ HT.out).mono ?_
        rintro e w2 ⟨v_x, rfl, o_x, bw2⟩
        obtain ⟨a_x, c_x, rfl⟩ := o_x.slice
        have O_x := Lib.hid (o_x.base BB.out.size)
        clear o_x
        replace B := Lib.hid (B.out.trans (bw2.mono B.out.size))
        replace BB := Lib.hid (BB.out.trans (bw2.mono BB.out.size))
        clear bw2
        go_wp2_with fail
        obtain ⟨W5, hW5⟩ : ∃ X9, X9 = w2.alloc (.cells #[.bool bx, .slice a_x lx.length c_x] 41) := ⟨_, rfl⟩
        have M_n := Lib.hid (show Bx W5 w2.heap.size 41 bx (.slice a_x lx.length c_x) by rw [hW5]; exact Bx.new _ _ _ _)
        replace O_x := Lib.hid (show OwnI W5 W0.heap.size _ _ by rw [hW5]; exact O_x.out.alloc _)
        replace BB := Lib.hid (show Below W0.heap.size W0 W5 by rw [hW5]; exact BB.out.alloc BB.out.size _)
        replace B := Lib.hid (show Below w.heap.size w W5 by rw [hW5]; exact B.out.alloc B.out.size _)
        rw [← hW5]
        clear hW5
        refine (C2.out _ HB.out).mono ?_
        rintro e w3 ⟨v_y, rfl, o_y, bw3⟩
        obtain ⟨a_y, c_y, rfl⟩ := o_y.slice
        have ap := apart_lo O_x.out (fun g hg => (o_y.lt g hg).1)
        replace O_x := Lib.hid (O_x.out.below bw3)
        replace M_n := Lib.hid (M_n.out.below bw3)
        have O_y := Lib.hid (o_y.base BB.out.size)
        clear o_y
        replace B := Lib.hid (B.out.trans (bw3.mono B.out.size))
        replace BB := Lib.hid (BB.out.trans (bw3.mono BB.out.size))
        clear bw3
        have AP := Lib.hid ap
        clear ap
        have c0_n := M_n.out.c0
        have c1_n := M_n.out.c1
        go_wp2_with fail
        clear c0_n c1_n
        obtain ⟨W6, hW6⟩ : ∃ X9, X9 = w3.alloc (.cells #[.bool bx, .slice a_x lx.length c_x, .slice a_y ly.length c_y] 43) := ⟨_, rfl⟩
        have M_q := Lib.hid (show Rx W6 w3.heap.size 43 bx (.slice a_x lx.length c_x) (.slice a_y ly.length c_y) by rw [hW6]; exact Rx.new _ _ _ _ _)
        replace O_x := Lib.hid (show OwnI W6 W0.heap.size _ _ by rw [hW6]; exact O_x.out.alloc _)
        replace O_y := Lib.hid (show OwnI W6 W0.heap.size _ _ by rw [hW6]; exact O_y.out.alloc _)
        replace M_n := Lib.hid (show Bx W6 _ _ _ _ by rw [hW6]; exact M_n.out.alloc _)
        replace BB := Lib.hid (show Below W0.heap.size W0 W6 by rw [hW6]; exact BB.out.alloc BB.out.size _)
        replace B := Lib.hid (show Below w.heap.size w W6 by rw [hW6]; exact B.out.alloc B.out.size _)
        rw [← hW6]
        clear hW6
        refine (impl_ratOkQ bx _ lx _ ly _ _ ⟨O_x.out.row, O_y.out.row⟩ E3.out).mono ?_
        rintro e w4 ⟨rfl, bw4⟩
        replace O_x := Lib.hid (O_x.out.below bw4)
        replace M_n := Lib.hid (M_n.out.below bw4)
        replace O_y := Lib.hid (O_y.out.below bw4)
        replace M_q := Lib.hid (M_q.out.below bw4)
        replace B := Lib.hid (B.out.trans (bw4.mono B.out.size))
        replace BB := Lib.hid (BB.out.trans (bw4.mono BB.out.size))
        clear bw4
        have c0_q := M_q.out.c0
        have c1_q := M_q.out.c1
        have c2_q := M_q.out.c2
        have DD9 := D_r.out.below BB.out
        have BB9 := B.out
        have y0 := DD9.c0; have y1 := DD9.c1; have y2 := DD9.c2; have y3 := DD9.f 0; have y4 := DD9.f 1; have y5 := DD9.f 2
        obtain ⟨e1, e2⟩ := rat_end (b' := false) BB9 DD9 (OwnR.nil _ W0.heap.size) (by decide) (by have := SZ.out; omega) (Nat.le_refl _) (.slice none 0 0) (.slice none 0 0)
        have D8 := Rx.set3 (b' := false) (v' := .slice none 0 0) (d' := .slice none 0 0) DD9
        have hc0 := D8.c0; have hc1 := D8.c1; have hc2 := D8.c2
        go_wp2
        exact bodyPost_ret (v := .tuple #[.agg #[.bool (false), .slice none 0 0, .slice none 0 0], .bool false]) (by simp [results, Tryz.results26, go_sem, hc0, hc1, hc2]) rfl ⟨_, _, rfl, e1, e2⟩

      | true =>
        have HP : prOk s = true := by unfold prOk; rw [h1, h2, h3, hq]; rfl
        have HR := pr_yes HP
        rw [HR.1, HR.2.1, HR.2.2, HP]
        clear HR HP
        have E3 := Lib.hid h3
        rw [h1] at P1
        rw [h2] at P2
        clear h1 h2 h3
        clear hq hbt9
        have hbt8 := (sQ_no QF.out).2.2.1
        rw [hbt8] at P2 HB
        try rw [hbt8] at LYE
        try rw [hbt8] at E3
        try rw [hbt8]
        obtain ⟨bx, hbx⟩ : ∃ t, pbB (sTop s) = t := ⟨_, rfl⟩
        obtain ⟨lx, hlx⟩ : ∃ t, pbL (sTop s) = t := ⟨_, rfl⟩
        obtain ⟨ly, hly⟩ : ∃ t, parseL (⟨#[49]⟩ : ByteArray) = t := ⟨_, rfl⟩
        rw [hbx, hlx] at P1
        rw [hly] at P2
        try rw [hbx, hlx, hly] at E3
        try rw [hly] at LYE
        try rw [hbx, hlx, hly]
        clear hbx hlx hly
        obtain ⟨tp, htp⟩ : ∃ t, sTop s = t := ⟨_, rfl⟩
        rw [htp] at P1 hcut HT
        clear htp
        replace CUT := Lib.hid hcut
        have C1 := Lib.hid P1
        have C2 := Lib.hid P2
        clear hcut P1 P2
        go_enter Tryz.func26, Tryz.ntmps26
        go_wp2_with fail
        obtain ⟨W0, hW0⟩ : ∃ x, x = (w.alloc (.cells #[.bool false, .slice none 0 0, .slice none 0 0] 43)) := ⟨_, rfl⟩
        have B := Lib.hid (show Below w.heap.size w W0 by rw [hW0]; exact ((Below.refl _ _).alloc (Nat.le_refl _) _))
        have D_r := Lib.hid (rx_at (show Rx W0 _ 43 (false) (.slice none 0 0) (.slice none 0 0) by rw [hW0]; exact Rx.new _ _ _ _ _) (show w.heap.size = _ by simp))
        have SZ := Lib.hid (show W0.heap.size = w.heap.size + 1 by rw [hW0]; simp)
        rw [← hW0]
        clear hW0
        have BB := Lib.hid (Below.refl W0.heap.size W0)
        refine (CUT.out _ HS.out).mono ?_
        rintro e w1 ⟨rfl, bw1⟩
        replace B := Lib.hid (B.out.trans (bw1.mono B.out.size))
        replace BB := Lib.hid (BB.out.trans (bw1.mono BB.out.size))
        clear bw1
        go_wp2_with fail
        refine (C1.out _ HT.out).mono ?_
        rintro e w2 ⟨v_x, rfl, o_x, bw2⟩
        obtain ⟨a_x, c_x, rfl⟩ := o_x.slice
        have O_x := Lib.hid (o_x.base BB.out.size)
        clear o_x
        replace B := Lib.hid (B.out.trans (bw2.mono B.out.size))
        replace BB := Lib.hid (BB.out.trans (bw2.mono BB.out.size))
        clear bw2
        go_wp2_with fail
        obtain ⟨W5, hW5⟩ : ∃ X9, X9 = w2.alloc (.cells #[.bool bx, .slice a_x lx.length c_x] 41) := ⟨_, rfl⟩
        have M_n := Lib.hid (show Bx W5 w2.heap.size 41 bx (.slice a_x lx.length c_x) by rw [hW5]; exact Bx.new _ _ _ _)
        replace O_x := Lib.hid (show OwnI W5 W0.heap.size _ _ by rw [hW5]; exact O_x.out.alloc _)
        replace BB := Lib.hid (show Below W0.heap.size W0 W5 by rw [hW5]; exact BB.out.alloc BB.out.size _)
        replace B := Lib.hid (show Below w.heap.size w W5 by rw [hW5]; exact B.out.alloc B.out.size _)
        rw [← hW5]
        clear hW5
        refine (C2.out _ HB.out).mono ?_
        rintro e w3 ⟨v_y, rfl, o_y, bw3⟩
        obtain ⟨a_y, c_y, rfl⟩ := o_y.slice
        have ap := apart_lo O_x.out (fun g hg => (o_y.lt g hg).1)
        replace O_x := Lib.hid (O_x.out.below bw3)
        replace M_n := Lib.hid (M_n.out.below bw3)
        have O_y := Lib.hid (o_y.base BB.out.size)
        clear o_y
        replace B := Lib.hid (B.out.trans (bw3.mono B.out.size))
        replace BB := Lib.hid (BB.out.trans (bw3.mono BB.out.size))
        clear bw3
        have AP := Lib.hid ap
        clear ap
        have c0_n := M_n.out.c0
        have c1_n := M_n.out.c1
        go_wp2_with fail
        clear c0_n c1_n
        obtain ⟨W6, hW6⟩ : ∃ X9, X9 = w3.alloc (.cells #[.bool bx, .slice a_x lx.length c_x, .slice a_y ly.length c_y] 43) := ⟨_, rfl⟩
        have M_q := Lib.hid (show Rx W6 w3.heap.size 43 bx (.slice a_x lx.length c_x) (.slice a_y ly.length c_y) by rw [hW6]; exact Rx.new _ _ _ _ _)
        replace O_x := Lib.hid (show OwnI W6 W0.heap.size _ _ by rw [hW6]; exact O_x.out.alloc _)
        replace O_y := Lib.hid (show OwnI W6 W0.heap.size _ _ by rw [hW6]; exact O_y.out.alloc _)
        replace M_n := Lib.hid (show Bx W6 _ _ _ _ by rw [hW6]; exact M_n.out.alloc _)
        replace BB := Lib.hid (show Below W0.heap.size W0 W6 by rw [hW6]; exact BB.out.alloc BB.out.size _)
        replace B := Lib.hid (show Below w.heap.size w W6 by rw [hW6]; exact B.out.alloc B.out.size _)
        rw [← hW6]
        clear hW6
        refine (impl_ratOkQ bx _ lx _ ly _ _ ⟨O_x.out.row, O_y.out.row⟩ E3.out).mono ?_
        rintro e w4 ⟨rfl, bw4⟩
        replace O_x := Lib.hid (O_x.out.below bw4)
        replace M_n := Lib.hid (M_n.out.below bw4)
        replace O_y := Lib.hid (O_y.out.below bw4)
        replace M_q := Lib.hid (M_q.out.below bw4)
        replace B := Lib.hid (B.out.trans (bw4.mono B.out.size))
        replace BB := Lib.hid (BB.out.trans (bw4.mono BB.out.size))
        clear bw4
        have c0_q := M_q.out.c0
        have c1_q := M_q.out.c1
        have c2_q := M_q.out.c2
        have DD9 := D_r.out.below BB.out
        have BB9 := B.out
        have y0 := DD9.c0; have y1 := DD9.c1; have y2 := DD9.c2; have y3 := DD9.f 0; have y4 := DD9.f 1; have y5 := DD9.f 2
        obtain ⟨e1, e2⟩ := rat_end (b' := bx) BB9 DD9 (show OwnR _ W0.heap.size _ _ _ _ from ⟨O_x.out, O_y.out, AP.out⟩) (by decide) (by have := SZ.out; omega) (Nat.le_refl _) (.slice a_x lx.length c_x) (.slice a_y ly.length c_y)
        have D8 := Rx.set3 (b' := bx) (v' := .slice a_x lx.length c_x) (d' := .slice a_y ly.length c_y) DD9
        have hc0 := D8.c0; have hc1 := D8.c1; have hc2 := D8.c2
        go_wp2
        exact bodyPost_ret (v := .tuple #[.agg #[.bool (bx), .slice a_x lx.length c_x, .slice a_y ly.length c_y], .bool true]) (by simp [results, Tryz.results26, go_sem, hc0, hc1, hc2]) rfl ⟨_, _, rfl, e1, e2⟩

  | true =>
    have QF := Lib.hid hq
    have hcut := CUT.out
    rw [hq] at hcut
    rw [if_pos rfl] at hcut
    have P1 : ∀ (W : World), (sTop s).size ≤ 1048576 → Calls Tryz.prog 47 #[.string (sTop s)] W fun e w' => ∃ v, e = .returned (.tuple #[.agg #[.bool (pbB (sTop s)), v], .bool (pbOk (sTop s))]) ∧ OwnI w' W.heap.size v (pbL (sTop s)) ∧ Below W.heap.size W w' := fun W h => impl_bigParse _ W h
    have P2 : ∀ (W : World), (sBot s).size ≤ 1048576 → Calls Tryz.prog 48 #[.string (sBot s)] W fun e w' => ∃ v, e = .returned (.tuple #[v, .bool (numB (sBot s))]) ∧ OwnI w' W.heap.size v (parseL (sBot s)) ∧ Below W.heap.size W w' := fun W h => impl_parseNat _ W h
    cases h1 : pbOk (sTop s) with
    | false =>
      have HP : prOk s = false := by unfold prOk; rw [h1]; rfl
      have HR := pr_no HP
      rw [HR.1, HR.2.1, HR.2.2, HP]
      clear HR HP
      rw [h1] at P1
      clear h1
      clear hq
      obtain ⟨bx, hbx⟩ : ∃ t, pbB (sTop s) = t := ⟨_, rfl⟩
      obtain ⟨lx, hlx⟩ : ∃ t, pbL (sTop s) = t := ⟨_, rfl⟩
      obtain ⟨ly, hly⟩ : ∃ t, parseL (sBot s) = t := ⟨_, rfl⟩
      rw [hbx, hlx] at P1
      rw [hly] at P2
      try rw [hbx, hlx, hly] at E3
      try rw [hly] at LYE
      try rw [hbx, hlx, hly]
      clear hbx hlx hly
      obtain ⟨tp, htp⟩ : ∃ t, sTop s = t := ⟨_, rfl⟩
      rw [htp] at P1 hcut HT
      clear htp
      obtain ⟨bt, hbt⟩ : ∃ t, sBot s = t := ⟨_, rfl⟩
      rw [hbt] at P2 hcut HB
      try rw [hbt] at LYE E4
      clear hbt
      replace CUT := Lib.hid hcut
      have C1 := Lib.hid P1
      have C2 := Lib.hid P2
      clear hcut P1 P2
      go_enter Tryz.func26, Tryz.ntmps26
      go_wp2_with fail
      obtain ⟨W0, hW0⟩ : ∃ x, x = (w.alloc (.cells #[.bool false, .slice none 0 0, .slice none 0 0] 43)) := ⟨_, rfl⟩
      have B := Lib.hid (show Below w.heap.size w W0 by rw [hW0]; exact ((Below.refl _ _).alloc (Nat.le_refl _) _))
      have D_r := Lib.hid (rx_at (show Rx W0 _ 43 (false) (.slice none 0 0) (.slice none 0 0) by rw [hW0]; exact Rx.new _ _ _ _ _) (show w.heap.size = _ by simp))
      have SZ := Lib.hid (show W0.heap.size = w.heap.size + 1 by rw [hW0]; simp)
      rw [← hW0]
      clear hW0
      have BB := Lib.hid (Below.refl W0.heap.size W0)
      refine (CUT.out _ HS.out).mono ?_
      rintro e w1 ⟨rfl, bw1⟩
      replace B := Lib.hid (B.out.trans (bw1.mono B.out.size))
      replace BB := Lib.hid (BB.out.trans (bw1.mono BB.out.size))
      clear bw1
      go_wp2_with fail
      refine (C1.out _ HT.out).mono ?_
      rintro e w2 ⟨v_x, rfl, o_x, bw2⟩
      obtain ⟨a_x, c_x, rfl⟩ := o_x.slice
      have O_x := Lib.hid (o_x.base BB.out.size)
      clear o_x
      replace B := Lib.hid (B.out.trans (bw2.mono B.out.size))
      replace BB := Lib.hid (BB.out.trans (bw2.mono BB.out.size))
      clear bw2
      go_wp2_with fail
      obtain ⟨W5, hW5⟩ : ∃ X9, X9 = w2.alloc (.cells #[.bool bx, .slice a_x lx.length c_x] 41) := ⟨_, rfl⟩
      have M_n := Lib.hid (show Bx W5 w2.heap.size 41 bx (.slice a_x lx.length c_x) by rw [hW5]; exact Bx.new _ _ _ _)
      replace O_x := Lib.hid (show OwnI W5 W0.heap.size _ _ by rw [hW5]; exact O_x.out.alloc _)
      replace BB := Lib.hid (show Below W0.heap.size W0 W5 by rw [hW5]; exact BB.out.alloc BB.out.size _)
      replace B := Lib.hid (show Below w.heap.size w W5 by rw [hW5]; exact B.out.alloc B.out.size _)
      rw [← hW5]
      clear hW5
      refine (C2.out _ HB.out).mono ?_
      rintro e w3 ⟨v_y, rfl, o_y, bw3⟩
      obtain ⟨a_y, c_y, rfl⟩ := o_y.slice
      have ap := apart_lo O_x.out (fun g hg => (o_y.lt g hg).1)
      replace O_x := Lib.hid (O_x.out.below bw3)
      replace M_n := Lib.hid (M_n.out.below bw3)
      have O_y := Lib.hid (o_y.base BB.out.size)
      clear o_y
      replace B := Lib.hid (B.out.trans (bw3.mono B.out.size))
      replace BB := Lib.hid (BB.out.trans (bw3.mono BB.out.size))
      clear bw3
      have AP := Lib.hid ap
      clear ap
      have c0_n := M_n.out.c0
      have c1_n := M_n.out.c1
      have DD9 := (D_r.out.below BB.out).alloc (.cells #[.bool bx, .slice a_x lx.length c_x, .slice a_y ly.length c_y] 43)
      have BB9 := B.out.alloc B.out.size (.cells #[.bool bx, .slice a_x lx.length c_x, .slice a_y ly.length c_y] 43)
      have y0 := DD9.c0; have y1 := DD9.c1; have y2 := DD9.c2; have y3 := DD9.f 0; have y4 := DD9.f 1; have y5 := DD9.f 2
      obtain ⟨e1, e2⟩ := rat_end (b' := false) BB9 DD9 (OwnR.nil _ W0.heap.size) (by decide) (by have := SZ.out; omega) (Nat.le_refl _) (.slice none 0 0) (.slice none 0 0)
      have D8 := Rx.set3 (b' := false) (v' := .slice none 0 0) (d' := .slice none 0 0) DD9
      have hc0 := D8.c0; have hc1 := D8.c1; have hc2 := D8.c2
      go_wp2
      exact bodyPost_ret (v := .tuple #[.agg #[.bool (false), .slice none 0 0, .slice none 0 0], .bool false]) (by simp [results, Tryz.results26, go_sem, hc0, hc1, hc2]) rfl ⟨_, _, rfl, e1, e2⟩

    | true =>
      cases h2 : numB (sBot s) with
      | false =>
        have HP : prOk s = false := by unfold prOk; rw [h1, h2]; rfl
        have HR := pr_no HP
        rw [HR.1, HR.2.1, HR.2.2, HP]
        clear HR HP
        rw [h1] at P1
        rw [h2] at P2
        clear h1 h2
        clear hq
        obtain ⟨bx, hbx⟩ : ∃ t, pbB (sTop s) = t := ⟨_, rfl⟩
        obtain ⟨lx, hlx⟩ : ∃ t, pbL (sTop s) = t := ⟨_, rfl⟩
        obtain ⟨ly, hly⟩ : ∃ t, parseL (sBot s) = t := ⟨_, rfl⟩
        rw [hbx, hlx] at P1
        rw [hly] at P2
        try rw [hbx, hlx, hly] at E3
        try rw [hly] at LYE
        try rw [hbx, hlx, hly]
        clear hbx hlx hly
        obtain ⟨tp, htp⟩ : ∃ t, sTop s = t := ⟨_, rfl⟩
        rw [htp] at P1 hcut HT
        clear htp
        obtain ⟨bt, hbt⟩ : ∃ t, sBot s = t := ⟨_, rfl⟩
        rw [hbt] at P2 hcut HB
        try rw [hbt] at LYE E4
        clear hbt
        replace CUT := Lib.hid hcut
        have C1 := Lib.hid P1
        have C2 := Lib.hid P2
        clear hcut P1 P2
        go_enter Tryz.func26, Tryz.ntmps26
        go_wp2_with fail
        obtain ⟨W0, hW0⟩ : ∃ x, x = (w.alloc (.cells #[.bool false, .slice none 0 0, .slice none 0 0] 43)) := ⟨_, rfl⟩
        have B := Lib.hid (show Below w.heap.size w W0 by rw [hW0]; exact ((Below.refl _ _).alloc (Nat.le_refl _) _))
        have D_r := Lib.hid (rx_at (show Rx W0 _ 43 (false) (.slice none 0 0) (.slice none 0 0) by rw [hW0]; exact Rx.new _ _ _ _ _) (show w.heap.size = _ by simp))
        have SZ := Lib.hid (show W0.heap.size = w.heap.size + 1 by rw [hW0]; simp)
        rw [← hW0]
        clear hW0
        have BB := Lib.hid (Below.refl W0.heap.size W0)
        refine (CUT.out _ HS.out).mono ?_
        rintro e w1 ⟨rfl, bw1⟩
        replace B := Lib.hid (B.out.trans (bw1.mono B.out.size))
        replace BB := Lib.hid (BB.out.trans (bw1.mono BB.out.size))
        clear bw1
        go_wp2_with fail
        refine (C1.out _ HT.out).mono ?_
        rintro e w2 ⟨v_x, rfl, o_x, bw2⟩
        obtain ⟨a_x, c_x, rfl⟩ := o_x.slice
        have O_x := Lib.hid (o_x.base BB.out.size)
        clear o_x
        replace B := Lib.hid (B.out.trans (bw2.mono B.out.size))
        replace BB := Lib.hid (BB.out.trans (bw2.mono BB.out.size))
        clear bw2
        go_wp2_with fail
        obtain ⟨W5, hW5⟩ : ∃ X9, X9 = w2.alloc (.cells #[.bool bx, .slice a_x lx.length c_x] 41) := ⟨_, rfl⟩
        have M_n := Lib.hid (show Bx W5 w2.heap.size 41 bx (.slice a_x lx.length c_x) by rw [hW5]; exact Bx.new _ _ _ _)
        replace O_x := Lib.hid (show OwnI W5 W0.heap.size _ _ by rw [hW5]; exact O_x.out.alloc _)
        replace BB := Lib.hid (show Below W0.heap.size W0 W5 by rw [hW5]; exact BB.out.alloc BB.out.size _)
        replace B := Lib.hid (show Below w.heap.size w W5 by rw [hW5]; exact B.out.alloc B.out.size _)
        rw [← hW5]
        clear hW5
        refine (C2.out _ HB.out).mono ?_
        rintro e w3 ⟨v_y, rfl, o_y, bw3⟩
        obtain ⟨a_y, c_y, rfl⟩ := o_y.slice
        have ap := apart_lo O_x.out (fun g hg => (o_y.lt g hg).1)
        replace O_x := Lib.hid (O_x.out.below bw3)
        replace M_n := Lib.hid (M_n.out.below bw3)
        have O_y := Lib.hid (o_y.base BB.out.size)
        clear o_y
        replace B := Lib.hid (B.out.trans (bw3.mono B.out.size))
        replace BB := Lib.hid (BB.out.trans (bw3.mono BB.out.size))
        clear bw3
        have AP := Lib.hid ap
        clear ap
        have c0_n := M_n.out.c0
        have c1_n := M_n.out.c1
        have DD9 := (D_r.out.below BB.out).alloc (.cells #[.bool bx, .slice a_x lx.length c_x, .slice a_y ly.length c_y] 43)
        have BB9 := B.out.alloc B.out.size (.cells #[.bool bx, .slice a_x lx.length c_x, .slice a_y ly.length c_y] 43)
        have y0 := DD9.c0; have y1 := DD9.c1; have y2 := DD9.c2; have y3 := DD9.f 0; have y4 := DD9.f 1; have y5 := DD9.f 2
        obtain ⟨e1, e2⟩ := rat_end (b' := false) BB9 DD9 (OwnR.nil _ W0.heap.size) (by decide) (by have := SZ.out; omega) (Nat.le_refl _) (.slice none 0 0) (.slice none 0 0)
        have D8 := Rx.set3 (b' := false) (v' := .slice none 0 0) (d' := .slice none 0 0) DD9
        have hc0 := D8.c0; have hc1 := D8.c1; have hc2 := D8.c2
        go_wp2
        exact bodyPost_ret (v := .tuple #[.agg #[.bool (false), .slice none 0 0, .slice none 0 0], .bool false]) (by simp [results, Tryz.results26, go_sem, hc0, hc1, hc2]) rfl ⟨_, _, rfl, e1, e2⟩

      | true =>
        cases h3 : ratOk (pbB (sTop s)) (pbL (sTop s)) (parseL (sBot s)) with
        | false =>
          have HP : prOk s = false := by unfold prOk; rw [h1, h2, h3]; rfl
          have HR := pr_no HP
          rw [HR.1, HR.2.1, HR.2.2, HP]
          clear HR HP
          have E3 := Lib.hid h3
          rw [h1] at P1
          rw [h2] at P2
          clear h1 h2 h3
          clear hq
          obtain ⟨bx, hbx⟩ : ∃ t, pbB (sTop s) = t := ⟨_, rfl⟩
          obtain ⟨lx, hlx⟩ : ∃ t, pbL (sTop s) = t := ⟨_, rfl⟩
          obtain ⟨ly, hly⟩ : ∃ t, parseL (sBot s) = t := ⟨_, rfl⟩
          rw [hbx, hlx] at P1
          rw [hly] at P2
          try rw [hbx, hlx, hly] at E3
          try rw [hly] at LYE
          try rw [hbx, hlx, hly]
          clear hbx hlx hly
          obtain ⟨tp, htp⟩ : ∃ t, sTop s = t := ⟨_, rfl⟩
          rw [htp] at P1 hcut HT
          clear htp
          obtain ⟨bt, hbt⟩ : ∃ t, sBot s = t := ⟨_, rfl⟩
          rw [hbt] at P2 hcut HB
          try rw [hbt] at LYE E4
          clear hbt
          replace CUT := Lib.hid hcut
          have C1 := Lib.hid P1
          have C2 := Lib.hid P2
          clear hcut P1 P2
          go_enter Tryz.func26, Tryz.ntmps26
          go_wp2_with fail
          obtain ⟨W0, hW0⟩ : ∃ x, x = (w.alloc (.cells #[.bool false, .slice none 0 0, .slice none 0 0] 43)) := ⟨_, rfl⟩
          have B := Lib.hid (show Below w.heap.size w W0 by rw [hW0]; exact ((Below.refl _ _).alloc (Nat.le_refl _) _))
          have D_r := Lib.hid (rx_at (show Rx W0 _ 43 (false) (.slice none 0 0) (.slice none 0 0) by rw [hW0]; exact Rx.new _ _ _ _ _) (show w.heap.size = _ by simp))
          have SZ := Lib.hid (show W0.heap.size = w.heap.size + 1 by rw [hW0]; simp)
          rw [← hW0]
          clear hW0
          have BB := Lib.hid (Below.refl W0.heap.size W0)
          refine (CUT.out _ HS.out).mono ?_
          rintro e w1 ⟨rfl, bw1⟩
          replace B := Lib.hid (B.out.trans (bw1.mono B.out.size))
          replace BB := Lib.hid (BB.out.trans (bw1.mono BB.out.size))
          clear bw1
          go_wp2_with fail
          refine (C1.out _ HT.out).mono ?_
          rintro e w2 ⟨v_x, rfl, o_x, bw2⟩
          obtain ⟨a_x, c_x, rfl⟩ := o_x.slice
          have O_x := Lib.hid (o_x.base BB.out.size)
          clear o_x
          replace B := Lib.hid (B.out.trans (bw2.mono B.out.size))
          replace BB := Lib.hid (BB.out.trans (bw2.mono BB.out.size))
          clear bw2
          go_wp2_with fail
          obtain ⟨W5, hW5⟩ : ∃ X9, X9 = w2.alloc (.cells #[.bool bx, .slice a_x lx.length c_x] 41) := ⟨_, rfl⟩
          have M_n := Lib.hid (show Bx W5 w2.heap.size 41 bx (.slice a_x lx.length c_x) by rw [hW5]; exact Bx.new _ _ _ _)
          replace O_x := Lib.hid (show OwnI W5 W0.heap.size _ _ by rw [hW5]; exact O_x.out.alloc _)
          replace BB := Lib.hid (show Below W0.heap.size W0 W5 by rw [hW5]; exact BB.out.alloc BB.out.size _)
          replace B := Lib.hid (show Below w.heap.size w W5 by rw [hW5]; exact B.out.alloc B.out.size _)
          rw [← hW5]
          clear hW5
          refine (C2.out _ HB.out).mono ?_
          rintro e w3 ⟨v_y, rfl, o_y, bw3⟩
          obtain ⟨a_y, c_y, rfl⟩ := o_y.slice
          have ap := apart_lo O_x.out (fun g hg => (o_y.lt g hg).1)
          replace O_x := Lib.hid (O_x.out.below bw3)
          replace M_n := Lib.hid (M_n.out.below bw3)
          have O_y := Lib.hid (o_y.base BB.out.size)
          clear o_y
          replace B := Lib.hid (B.out.trans (bw3.mono B.out.size))
          replace BB := Lib.hid (BB.out.trans (bw3.mono BB.out.size))
          clear bw3
          have AP := Lib.hid ap
          clear ap
          have c0_n := M_n.out.c0
          have c1_n := M_n.out.c1
          go_wp2_with fail
          clear c0_n c1_n
          obtain ⟨W6, hW6⟩ : ∃ X9, X9 = w3.alloc (.cells #[.bool bx, .slice a_x lx.length c_x, .slice a_y ly.length c_y] 43) := ⟨_, rfl⟩
          have M_q := Lib.hid (show Rx W6 w3.heap.size 43 bx (.slice a_x lx.length c_x) (.slice a_y ly.length c_y) by rw [hW6]; exact Rx.new _ _ _ _ _)
          replace O_x := Lib.hid (show OwnI W6 W0.heap.size _ _ by rw [hW6]; exact O_x.out.alloc _)
          replace O_y := Lib.hid (show OwnI W6 W0.heap.size _ _ by rw [hW6]; exact O_y.out.alloc _)
          replace M_n := Lib.hid (show Bx W6 _ _ _ _ by rw [hW6]; exact M_n.out.alloc _)
          replace BB := Lib.hid (show Below W0.heap.size W0 W6 by rw [hW6]; exact BB.out.alloc BB.out.size _)
          replace B := Lib.hid (show Below w.heap.size w W6 by rw [hW6]; exact B.out.alloc B.out.size _)
          rw [← hW6]
          clear hW6
          refine (impl_ratOkQ bx _ lx _ ly _ _ ⟨O_x.out.row, O_y.out.row⟩ E3.out).mono ?_
          rintro e w4 ⟨rfl, bw4⟩
          replace O_x := Lib.hid (O_x.out.below bw4)
          replace M_n := Lib.hid (M_n.out.below bw4)
          replace O_y := Lib.hid (O_y.out.below bw4)
          replace M_q := Lib.hid (M_q.out.below bw4)
          replace B := Lib.hid (B.out.trans (bw4.mono B.out.size))
          replace BB := Lib.hid (BB.out.trans (bw4.mono BB.out.size))
          clear bw4
          have c0_q := M_q.out.c0
          have c1_q := M_q.out.c1
          have c2_q := M_q.out.c2
          have DD9 := D_r.out.below BB.out
          have BB9 := B.out
          have y0 := DD9.c0; have y1 := DD9.c1; have y2 := DD9.c2; have y3 := DD9.f 0; have y4 := DD9.f 1; have y5 := DD9.f 2
          obtain ⟨e1, e2⟩ := rat_end (b' := false) BB9 DD9 (OwnR.nil _ W0.heap.size) (by decide) (by have := SZ.out; omega) (Nat.le_refl _) (.slice none 0 0) (.slice none 0 0)
          have D8 := Rx.set3 (b' := false) (v' := .slice none 0 0) (d' := .slice none 0 0) DD9
          have hc0 := D8.c0; have hc1 := D8.c1; have hc2 := D8.c2
          go_wp2
          exact bodyPost_ret (v := .tuple #[.agg #[.bool (false), .slice none 0 0, .slice none 0 0], .bool false]) (by simp [results, Tryz.results26, go_sem, hc0, hc1, hc2]) rfl ⟨_, _, rfl, e1, e2⟩

        | true =>
          have LYE := Lib.hid (parseL_yes h2)
          cases h4 : decide (numV (sBot s) = 1) with
          | true =>
            have HP : prOk s = false := by unfold prOk; rw [h1, h2, h3, hq, h4]; rfl
            have HR := pr_no HP
            rw [HR.1, HR.2.1, HR.2.2, HP]
            clear HR HP
            have E3 := Lib.hid h3
            have E4 := Lib.hid h4
            rw [h1] at P1
            rw [h2] at P2
            clear h1 h2 h3 h4
            clear hq
            obtain ⟨bx, hbx⟩ : ∃ t, pbB (sTop s) = t := ⟨_, rfl⟩
            obtain ⟨lx, hlx⟩ : ∃ t, pbL (sTop s) = t := ⟨_, rfl⟩
            obtain ⟨ly, hly⟩ : ∃ t, parseL (sBot s) = t := ⟨_, rfl⟩
            rw [hbx, hlx] at P1
            rw [hly] at P2
            try rw [hbx, hlx, hly] at E3
            try rw [hly] at LYE
            try rw [hbx, hlx, hly]
            clear hbx hlx hly
            obtain ⟨tp, htp⟩ : ∃ t, sTop s = t := ⟨_, rfl⟩
            rw [htp] at P1 hcut HT
            clear htp
            obtain ⟨bt, hbt⟩ : ∃ t, sBot s = t := ⟨_, rfl⟩
            rw [hbt] at P2 hcut HB
            try rw [hbt] at LYE E4
            clear hbt
            replace CUT := Lib.hid hcut
            have C1 := Lib.hid P1
            have C2 := Lib.hid P2
            clear hcut P1 P2
            have LY := LYE
            go_enter Tryz.func26, Tryz.ntmps26
            go_wp2_with fail
            obtain ⟨W0, hW0⟩ : ∃ x, x = (w.alloc (.cells #[.bool false, .slice none 0 0, .slice none 0 0] 43)) := ⟨_, rfl⟩
            have B := Lib.hid (show Below w.heap.size w W0 by rw [hW0]; exact ((Below.refl _ _).alloc (Nat.le_refl _) _))
            have D_r := Lib.hid (rx_at (show Rx W0 _ 43 (false) (.slice none 0 0) (.slice none 0 0) by rw [hW0]; exact Rx.new _ _ _ _ _) (show w.heap.size = _ by simp))
            have SZ := Lib.hid (show W0.heap.size = w.heap.size + 1 by rw [hW0]; simp)
            rw [← hW0]
            clear hW0
            have BB := Lib.hid (Below.refl W0.heap.size W0)
            refine (CUT.out _ HS.out).mono ?_
            rintro e w1 ⟨rfl, bw1⟩
            replace B := Lib.hid (B.out.trans (bw1.mono B.out.size))
            replace BB := Lib.hid (BB.out.trans (bw1.mono BB.out.size))
            clear bw1
            go_wp2_with fail
            refine (C1.out _ HT.out).mono ?_
            rintro e w2 ⟨v_x, rfl, o_x, bw2⟩
            obtain ⟨a_x, c_x, rfl⟩ := o_x.slice
            have O_x := Lib.hid (o_x.base BB.out.size)
            clear o_x
            replace B := Lib.hid (B.out.trans (bw2.mono B.out.size))
            replace BB := Lib.hid (BB.out.trans (bw2.mono BB.out.size))
            clear bw2
            go_wp2_with fail
            obtain ⟨W5, hW5⟩ : ∃ X9, X9 = w2.alloc (.cells #[.bool bx, .slice a_x lx.length c_x] 41) := ⟨_, rfl⟩
            have M_n := Lib.hid (show Bx W5 w2.heap.size 41 bx (.slice a_x lx.length c_x) by rw [hW5]; exact Bx.new _ _ _ _)
            replace O_x := Lib.hid (show OwnI W5 W0.heap.size _ _ by rw [hW5]; exact O_x.out.alloc _)
            replace BB := Lib.hid (show Below W0.heap.size W0 W5 by rw [hW5]; exact BB.out.alloc BB.out.size _)
            replace B := Lib.hid (show Below w.heap.size w W5 by rw [hW5]; exact B.out.alloc B.out.size _)
            rw [← hW5]
            clear hW5
            refine (C2.out _ HB.out).mono ?_
            rintro e w3 ⟨v_y, rfl, o_y, bw3⟩
            obtain ⟨a_y, c_y, rfl⟩ := o_y.slice
            have ap := apart_lo O_x.out (fun g hg => (o_y.lt g hg).1)
            replace O_x := Lib.hid (O_x.out.below bw3)
            replace M_n := Lib.hid (M_n.out.below bw3)
            have O_y := Lib.hid (o_y.base BB.out.size)
            clear o_y
            replace B := Lib.hid (B.out.trans (bw3.mono B.out.size))
            replace BB := Lib.hid (BB.out.trans (bw3.mono BB.out.size))
            clear bw3
            have AP := Lib.hid ap
            clear ap
            have c0_n := M_n.out.c0
            have c1_n := M_n.out.c1
            go_wp2_with fail
            clear c0_n c1_n
            obtain ⟨W6, hW6⟩ : ∃ X9, X9 = w3.alloc (.cells #[.bool bx, .slice a_x lx.length c_x, .slice a_y ly.length c_y] 43) := ⟨_, rfl⟩
            have M_q := Lib.hid (show Rx W6 w3.heap.size 43 bx (.slice a_x lx.length c_x) (.slice a_y ly.length c_y) by rw [hW6]; exact Rx.new _ _ _ _ _)
            replace O_x := Lib.hid (show OwnI W6 W0.heap.size _ _ by rw [hW6]; exact O_x.out.alloc _)
            replace O_y := Lib.hid (show OwnI W6 W0.heap.size _ _ by rw [hW6]; exact O_y.out.alloc _)
            replace M_n := Lib.hid (show Bx W6 _ _ _ _ by rw [hW6]; exact M_n.out.alloc _)
            replace BB := Lib.hid (show Below W0.heap.size W0 W6 by rw [hW6]; exact BB.out.alloc BB.out.size _)
            replace B := Lib.hid (show Below w.heap.size w W6 by rw [hW6]; exact B.out.alloc B.out.size _)
            rw [← hW6]
            clear hW6
            refine (impl_ratOkQ bx _ lx _ ly _ _ ⟨O_x.out.row, O_y.out.row⟩ E3.out).mono ?_
            rintro e w4 ⟨rfl, bw4⟩
            replace O_x := Lib.hid (O_x.out.below bw4)
            replace M_n := Lib.hid (M_n.out.below bw4)
            replace O_y := Lib.hid (O_y.out.below bw4)
            replace M_q := Lib.hid (M_q.out.below bw4)
            replace B := Lib.hid (B.out.trans (bw4.mono B.out.size))
            replace BB := Lib.hid (BB.out.trans (bw4.mono BB.out.size))
            clear bw4
            have c0_q := M_q.out.c0
            have c1_q := M_q.out.c1
            have c2_q := M_q.out.c2
            go_wp2_with fail
            clear c0_q c1_q c2_q
            refine (impl_isOne _ (numV bt) _ (row_cast O_y.out.row LY.out)).mono ?_
            rw [E4.out]
            rintro r9 w9 ⟨rfl, h9⟩
            replace h9 := h9.symm
            subst h9
            have c0_q := M_q.out.c0
            have c1_q := M_q.out.c1
            have c2_q := M_q.out.c2
            have DD9 := D_r.out.below BB.out
            have BB9 := B.out
            have y0 := DD9.c0; have y1 := DD9.c1; have y2 := DD9.c2; have y3 := DD9.f 0; have y4 := DD9.f 1; have y5 := DD9.f 2
            obtain ⟨e1, e2⟩ := rat_end (b' := false) BB9 DD9 (OwnR.nil _ W0.heap.size) (by decide) (by have := SZ.out; omega) (Nat.le_refl _) (.slice none 0 0) (.slice none 0 0)
            have D8 := Rx.set3 (b' := false) (v' := .slice none 0 0) (d' := .slice none 0 0) DD9
            have hc0 := D8.c0; have hc1 := D8.c1; have hc2 := D8.c2
            go_wp2
            exact bodyPost_ret (v := .tuple #[.agg #[.bool (false), .slice none 0 0, .slice none 0 0], .bool false]) (by simp [results, Tryz.results26, go_sem, hc0, hc1, hc2]) rfl ⟨_, _, rfl, e1, e2⟩

          | false =>
            have HP : prOk s = true := by unfold prOk; rw [h1, h2, h3, hq, h4]; rfl
            have HR := pr_yes HP
            rw [HR.1, HR.2.1, HR.2.2, HP]
            clear HR HP
            have E3 := Lib.hid h3
            have E4 := Lib.hid h4
            rw [h1] at P1
            rw [h2] at P2
            clear h1 h2 h3 h4
            clear hq
            obtain ⟨bx, hbx⟩ : ∃ t, pbB (sTop s) = t := ⟨_, rfl⟩
            obtain ⟨lx, hlx⟩ : ∃ t, pbL (sTop s) = t := ⟨_, rfl⟩
            obtain ⟨ly, hly⟩ : ∃ t, parseL (sBot s) = t := ⟨_, rfl⟩
            rw [hbx, hlx] at P1
            rw [hly] at P2
            try rw [hbx, hlx, hly] at E3
            try rw [hly] at LYE
            try rw [hbx, hlx, hly]
            clear hbx hlx hly
            obtain ⟨tp, htp⟩ : ∃ t, sTop s = t := ⟨_, rfl⟩
            rw [htp] at P1 hcut HT
            clear htp
            obtain ⟨bt, hbt⟩ : ∃ t, sBot s = t := ⟨_, rfl⟩
            rw [hbt] at P2 hcut HB
            try rw [hbt] at LYE E4
            clear hbt
            replace CUT := Lib.hid hcut
            have C1 := Lib.hid P1
            have C2 := Lib.hid P2
            clear hcut P1 P2
            have LY := LYE
            go_enter Tryz.func26, Tryz.ntmps26
            go_wp2_with fail
            obtain ⟨W0, hW0⟩ : ∃ x, x = (w.alloc (.cells #[.bool false, .slice none 0 0, .slice none 0 0] 43)) := ⟨_, rfl⟩
            have B := Lib.hid (show Below w.heap.size w W0 by rw [hW0]; exact ((Below.refl _ _).alloc (Nat.le_refl _) _))
            have D_r := Lib.hid (rx_at (show Rx W0 _ 43 (false) (.slice none 0 0) (.slice none 0 0) by rw [hW0]; exact Rx.new _ _ _ _ _) (show w.heap.size = _ by simp))
            have SZ := Lib.hid (show W0.heap.size = w.heap.size + 1 by rw [hW0]; simp)
            rw [← hW0]
            clear hW0
            have BB := Lib.hid (Below.refl W0.heap.size W0)
            refine (CUT.out _ HS.out).mono ?_
            rintro e w1 ⟨rfl, bw1⟩
            replace B := Lib.hid (B.out.trans (bw1.mono B.out.size))
            replace BB := Lib.hid (BB.out.trans (bw1.mono BB.out.size))
            clear bw1
            go_wp2_with fail
            refine (C1.out _ HT.out).mono ?_
            rintro e w2 ⟨v_x, rfl, o_x, bw2⟩
            obtain ⟨a_x, c_x, rfl⟩ := o_x.slice
            have O_x := Lib.hid (o_x.base BB.out.size)
            clear o_x
            replace B := Lib.hid (B.out.trans (bw2.mono B.out.size))
            replace BB := Lib.hid (BB.out.trans (bw2.mono BB.out.size))
            clear bw2
            go_wp2_with fail
            obtain ⟨W5, hW5⟩ : ∃ X9, X9 = w2.alloc (.cells #[.bool bx, .slice a_x lx.length c_x] 41) := ⟨_, rfl⟩
            have M_n := Lib.hid (show Bx W5 w2.heap.size 41 bx (.slice a_x lx.length c_x) by rw [hW5]; exact Bx.new _ _ _ _)
            replace O_x := Lib.hid (show OwnI W5 W0.heap.size _ _ by rw [hW5]; exact O_x.out.alloc _)
            replace BB := Lib.hid (show Below W0.heap.size W0 W5 by rw [hW5]; exact BB.out.alloc BB.out.size _)
            replace B := Lib.hid (show Below w.heap.size w W5 by rw [hW5]; exact B.out.alloc B.out.size _)
            rw [← hW5]
            clear hW5
            refine (C2.out _ HB.out).mono ?_
            rintro e w3 ⟨v_y, rfl, o_y, bw3⟩
            obtain ⟨a_y, c_y, rfl⟩ := o_y.slice
            have ap := apart_lo O_x.out (fun g hg => (o_y.lt g hg).1)
            replace O_x := Lib.hid (O_x.out.below bw3)
            replace M_n := Lib.hid (M_n.out.below bw3)
            have O_y := Lib.hid (o_y.base BB.out.size)
            clear o_y
            replace B := Lib.hid (B.out.trans (bw3.mono B.out.size))
            replace BB := Lib.hid (BB.out.trans (bw3.mono BB.out.size))
            clear bw3
            have AP := Lib.hid ap
            clear ap
            have c0_n := M_n.out.c0
            have c1_n := M_n.out.c1
            go_wp2_with fail
            clear c0_n c1_n
            obtain ⟨W6, hW6⟩ : ∃ X9, X9 = w3.alloc (.cells #[.bool bx, .slice a_x lx.length c_x, .slice a_y ly.length c_y] 43) := ⟨_, rfl⟩
            have M_q := Lib.hid (show Rx W6 w3.heap.size 43 bx (.slice a_x lx.length c_x) (.slice a_y ly.length c_y) by rw [hW6]; exact Rx.new _ _ _ _ _)
            replace O_x := Lib.hid (show OwnI W6 W0.heap.size _ _ by rw [hW6]; exact O_x.out.alloc _)
            replace O_y := Lib.hid (show OwnI W6 W0.heap.size _ _ by rw [hW6]; exact O_y.out.alloc _)
            replace M_n := Lib.hid (show Bx W6 _ _ _ _ by rw [hW6]; exact M_n.out.alloc _)
            replace BB := Lib.hid (show Below W0.heap.size W0 W6 by rw [hW6]; exact BB.out.alloc BB.out.size _)
            replace B := Lib.hid (show Below w.heap.size w W6 by rw [hW6]; exact B.out.alloc B.out.size _)
            rw [← hW6]
            clear hW6
            refine (impl_ratOkQ bx _ lx _ ly _ _ ⟨O_x.out.row, O_y.out.row⟩ E3.out).mono ?_
            rintro e w4 ⟨rfl, bw4⟩
            replace O_x := Lib.hid (O_x.out.below bw4)
            replace M_n := Lib.hid (M_n.out.below bw4)
            replace O_y := Lib.hid (O_y.out.below bw4)
            replace M_q := Lib.hid (M_q.out.below bw4)
            replace B := Lib.hid (B.out.trans (bw4.mono B.out.size))
            replace BB := Lib.hid (BB.out.trans (bw4.mono BB.out.size))
            clear bw4
            have c0_q := M_q.out.c0
            have c1_q := M_q.out.c1
            have c2_q := M_q.out.c2
            go_wp2_with fail
            clear c0_q c1_q c2_q
            refine (impl_isOne _ (numV bt) _ (row_cast O_y.out.row LY.out)).mono ?_
            rw [E4.out]
            rintro r9 w9 ⟨rfl, h9⟩
            replace h9 := h9.symm
            subst h9
            have c0_q := M_q.out.c0
            have c1_q := M_q.out.c1
            have c2_q := M_q.out.c2
            have DD9 := D_r.out.below BB.out
            have BB9 := B.out
            have y0 := DD9.c0; have y1 := DD9.c1; have y2 := DD9.c2; have y3 := DD9.f 0; have y4 := DD9.f 1; have y5 := DD9.f 2
            obtain ⟨e1, e2⟩ := rat_end (b' := bx) BB9 DD9 (show OwnR _ W0.heap.size _ _ _ _ from ⟨O_x.out, O_y.out, AP.out⟩) (by decide) (by have := SZ.out; omega) (Nat.le_refl _) (.slice a_x lx.length c_x) (.slice a_y ly.length c_y)
            have D8 := Rx.set3 (b' := bx) (v' := .slice a_x lx.length c_x) (d' := .slice a_y ly.length c_y) DD9
            have hc0 := D8.c0; have hc1 := D8.c1; have hc2 := D8.c2
            go_wp2
            exact bodyPost_ret (v := .tuple #[.agg #[.bool (bx), .slice a_x lx.length c_x, .slice a_y ly.length c_y], .bool true]) (by simp [results, Tryz.results26, go_sem, hc0, hc1, hc2]) rfl ⟨_, _, rfl, e1, e2⟩


set_option maxRecDepth 100000 in
set_option maxHeartbeats 4000000 in
theorem spec_ratParse (s : ByteArray) (w : World) (hs : s.size ≤ 1048576) :
    Calls Tryz.prog 24 #[.string s] w fun r w' => ∃ v dd, r = .returned (.tuple #[.agg #[.bool (prB s), v, dd], .bool (prOk s)]) ∧ OwnR w' w.heap.size v (prZ s) dd (prD s) ∧ Below w.heap.size w w' := by
  have SPL := Lib.hid (fun W => spec_splitAny s ⟨#[47]⟩ W (by omega) (by unfold maxLen; decide))
  have ht0 : (sTop s).size ≤ 1048576 := by unfold sTop; split; (rw [ByteArray.size_extract]; omega); omega
  have HS := Lib.hid hs
  have HT := Lib.hid ht0
  clear ht0
  cases hq : sQ s with
  | false =>
    have hpp := parts_no hq
    have htop := (sQ_no hq).2.1
    have hbot := (sQ_no hq).2.2.1
    have P1 : ∀ (W : World), (sTop s).size ≤ 1048576 → Calls Tryz.prog 44 #[.string (sTop s)] W fun e w' => ∃ v, e = .returned (.tuple #[.agg #[.bool (pbB (sTop s)), v], .bool (pbOk (sTop s))]) ∧ OwnI w' W.heap.size v (pbL (sTop s)) ∧ Below W.heap.size W w' := fun W h => spec_bigParse _ W h
    have HLY : Hid (parseL (sBot s) = [1]) := Lib.hid (by rw [hbot, parseL_yes one_num.1, one_num.2, limI_1])
    cases h1 : pbOk (sTop s) with
    | false =>
      have HP : prOk s = false := by unfold prOk; rw [h1]; rfl
      have HR := pr_no HP
      rw [HR.1, HR.2.1, HR.2.2, HP]
      clear HR HP
      rw [h1] at P1
      clear h1
      obtain ⟨PP, hPP⟩ : ∃ l, cutAll (hasB ⟨#[47]⟩) s = l := ⟨_, rfl⟩
      have SP := SPL.out
      rw [hPP] at SP hpp
      replace SPL := Lib.hid SP
      have HPP := Lib.hid hpp
      clear SP hPP hpp hq
      rw [htop] at P1 HT
      try rw [htop] at TXT
      try rw [htop]
      obtain ⟨ly, hly⟩ : ∃ t, parseL (sBot s) = t := ⟨_, rfl⟩
      try rw [hly] at HLY
      try rw [hly] at TXT
      try rw [hly]
      try rw [hly] at P2
      clear hly htop hbot
      obtain ⟨bx, hbx⟩ : ∃ t, pbB s = t := ⟨_, rfl⟩
      obtain ⟨lx, hlx⟩ : ∃ t, pbL s = t := ⟨_, rfl⟩
      rw [hbx, hlx] at P1
      try rw [hbx, hlx] at TXT
      try rw [hbx, hlx]
      clear hbx hlx
      obtain ⟨tp, htp⟩ : ∃ t, t = s := ⟨_, rfl⟩
      rw [← htp] at P1 HT HPP
      clear htp
      have C1 := Lib.hid P1
      clear P1
      go_enter Tryz.func24, Tryz.ntmps24
      go_wp2_with fail
      obtain ⟨W0, hW0⟩ : ∃ x, x = (w.alloc (.cells #[.bool false, .slice none 0 0, .slice none 0 0] 43)) := ⟨_, rfl⟩
      have B := Lib.hid (show Below w.heap.size w W0 by rw [hW0]; exact ((Below.refl _ _).alloc (Nat.le_refl _) _))
      have D_r := Lib.hid (rx_at (show Rx W0 _ 43 (false) (.slice none 0 0) (.slice none 0 0) by rw [hW0]; exact Rx.new _ _ _ _ _) (show w.heap.size = _ by simp))
      have SZ := Lib.hid (show W0.heap.size = w.heap.size + 1 by rw [hW0]; simp)
      rw [← hW0]
      clear hW0
      have BB := Lib.hid (Below.refl W0.heap.size W0)
      refine (SPL.out _).mono ?_
      rintro e w1 ⟨vl, rfl, hol, bw1⟩
      have RL0 := Lib.hid (show RowOf .string w1 vl PP from ownsRow_row hol)
      clear hol
      replace B := Lib.hid (B.out.trans (bw1.mono B.out.size))
      replace BB := Lib.hid (BB.out.trans (bw1.mono BB.out.size))
      clear bw1
      obtain ⟨al, cl, hvl, hl1, hl2, hl3⟩ := RL0.out
      subst hvl
      obtain ⟨bl, ol, hal, hc0⟩ := hl3 0 (by rw [HPP.out]; simp)
      subst hal
      rw [Nat.add_zero] at hc0
      simp only [HPP.out, List.getElem_cons_zero] at hc0
      clear hl1 hl2 hl3 RL0
      have hlen : PP.length = 1 := by rw [HPP.out]; simp
      rw [hlen]
      have HC := Lib.hid (show ∀ W : World, Below w1.heap.size w1 W → W.cell? ⟨bl, ol, none⟩ = some (.string tp) from fun W hW => (hW.cell (p := ⟨bl, ol, none⟩) (World.block_lt_of_cell? _ _ hc0)).trans hc0)
      have B91 := Lib.hid (Below.refl w1.heap.size w1)
      go_wp2_with fail
      clear hc0
      refine (C1.out _ HT.out).mono ?_
      rintro e w2 ⟨v_x, rfl, o_x, bw2⟩
      obtain ⟨a_x, c_x, rfl⟩ := o_x.slice
      have O_x := Lib.hid (o_x.base BB.out.size)
      clear o_x
      replace B91 := Lib.hid (B91.out.trans (bw2.mono B91.out.size))
      replace B := Lib.hid (B.out.trans (bw2.mono B.out.size))
      replace BB := Lib.hid (BB.out.trans (bw2.mono BB.out.size))
      clear bw2
      have E9 := (D_r.out.below BB.out)
      have DD9 := ((E9.alloc (.cells #[.bool bx, .slice a_x lx.length c_x] 41)).alloc (.cells #[.int .i64 1] 3)).alloc (.cells #[.bool bx, .slice a_x lx.length c_x, .slice (some ⟨w2.heap.size + 1, 0, none⟩) 1 1] 43)
      have BB9 := ((B.out.alloc B.out.size (.cells #[.bool bx, .slice a_x lx.length c_x] 41)).alloc (Nat.le_trans B.out.size (by simp)) (.cells #[.int .i64 1] 3)).alloc (Nat.le_trans B.out.size (by simp; omega)) (.cells #[.bool bx, .slice a_x lx.length c_x, .slice (some ⟨w2.heap.size + 1, 0, none⟩) 1 1] 43)
      have y0 := DD9.c0; have y1 := DD9.c1; have y2 := DD9.c2; have y3 := DD9.f 0; have y4 := DD9.f 1; have y5 := DD9.f 2
      obtain ⟨e1, e2⟩ := rat_end (b' := false) BB9 DD9 (OwnR.nil _ W0.heap.size) (by decide) (by have := SZ.out; omega) (Nat.le_refl _) (.slice none 0 0) (.slice none 0 0)
      have D8 := Rx.set3 (b' := false) (v' := .slice none 0 0) (d' := .slice none 0 0) DD9
      have hc0 := D8.c0; have hc1 := D8.c1; have hc2 := D8.c2
      go_wp2
      exact bodyPost_ret (v := .tuple #[.agg #[.bool (false), .slice none 0 0, .slice none 0 0], .bool false]) (by simp [results, Tryz.results24, go_sem, hc0, hc1, hc2]) rfl ⟨_, _, rfl, e1, e2⟩

    | true =>
      have h2 : numB (sBot s) = true := by rw [hbot]; exact one_num.1
      have hbt := bigText_parse h1
      have hsz := pbOk_size h1
      have hln : parseL (sBot s) = limI 1 := by rw [HLY.out, limI_1]
      cases h3 : ratOk (pbB (sTop s)) (pbL (sTop s)) (parseL (sBot s)) with
      | false =>
        have HP : prOk s = false := by unfold prOk; rw [h1, h2, h3]; rfl
        have HR := pr_no HP
        rw [HR.1, HR.2.1, HR.2.2, HP]
        clear HR HP
        have TXT := Lib.hid (ratText_no h3)
        rw [h1] at P1
        clear h1 h2 h3 hbt hsz hln
        obtain ⟨PP, hPP⟩ : ∃ l, cutAll (hasB ⟨#[47]⟩) s = l := ⟨_, rfl⟩
        have SP := SPL.out
        rw [hPP] at SP hpp
        replace SPL := Lib.hid SP
        have HPP := Lib.hid hpp
        clear SP hPP hpp hq
        rw [htop] at P1 HT
        try rw [htop] at TXT
        try rw [htop]
        obtain ⟨ly, hly⟩ : ∃ t, parseL (sBot s) = t := ⟨_, rfl⟩
        try rw [hly] at HLY
        try rw [hly] at TXT
        try rw [hly]
        try rw [hly] at P2
        clear hly htop hbot
        obtain ⟨bx, hbx⟩ : ∃ t, pbB s = t := ⟨_, rfl⟩
        obtain ⟨lx, hlx⟩ : ∃ t, pbL s = t := ⟨_, rfl⟩
        rw [hbx, hlx] at P1
        try rw [hbx, hlx] at TXT
        try rw [hbx, hlx]
        clear hbx hlx
        obtain ⟨tp, htp⟩ : ∃ t, t = s := ⟨_, rfl⟩
        rw [← htp] at P1 HT HPP
        clear htp
        have C1 := Lib.hid P1
        clear P1
        go_enter Tryz.func24, Tryz.ntmps24
        go_wp2_with fail
        obtain ⟨W0, hW0⟩ : ∃ x, x = (w.alloc (.cells #[.bool false, .slice none 0 0, .slice none 0 0] 43)) := ⟨_, rfl⟩
        have B := Lib.hid (show Below w.heap.size w W0 by rw [hW0]; exact ((Below.refl _ _).alloc (Nat.le_refl _) _))
        have D_r := Lib.hid (rx_at (show Rx W0 _ 43 (false) (.slice none 0 0) (.slice none 0 0) by rw [hW0]; exact Rx.new _ _ _ _ _) (show w.heap.size = _ by simp))
        have SZ := Lib.hid (show W0.heap.size = w.heap.size + 1 by rw [hW0]; simp)
        rw [← hW0]
        clear hW0
        have BB := Lib.hid (Below.refl W0.heap.size W0)
        refine (SPL.out _).mono ?_
        rintro e w1 ⟨vl, rfl, hol, bw1⟩
        have RL0 := Lib.hid (show RowOf .string w1 vl PP from ownsRow_row hol)
        clear hol
        replace B := Lib.hid (B.out.trans (bw1.mono B.out.size))
        replace BB := Lib.hid (BB.out.trans (bw1.mono BB.out.size))
        clear bw1
        obtain ⟨al, cl, hvl, hl1, hl2, hl3⟩ := RL0.out
        subst hvl
        obtain ⟨bl, ol, hal, hc0⟩ := hl3 0 (by rw [HPP.out]; simp)
        subst hal
        rw [Nat.add_zero] at hc0
        simp only [HPP.out, List.getElem_cons_zero] at hc0
        clear hl1 hl2 hl3 RL0
        have hlen : PP.length = 1 := by rw [HPP.out]; simp
        rw [hlen]
        have HC := Lib.hid (show ∀ W : World, Below w1.heap.size w1 W → W.cell? ⟨bl, ol, none⟩ = some (.string tp) from fun W hW => (hW.cell (p := ⟨bl, ol, none⟩) (World.block_lt_of_cell? _ _ hc0)).trans hc0)
        have B91 := Lib.hid (Below.refl w1.heap.size w1)
        go_wp2_with fail
        clear hc0
        refine (C1.out _ HT.out).mono ?_
        rintro e w2 ⟨v_x, rfl, o_x, bw2⟩
        obtain ⟨a_x, c_x, rfl⟩ := o_x.slice
        have O_x := Lib.hid (o_x.base BB.out.size)
        clear o_x
        replace B91 := Lib.hid (B91.out.trans (bw2.mono B91.out.size))
        replace B := Lib.hid (B.out.trans (bw2.mono B.out.size))
        replace BB := Lib.hid (BB.out.trans (bw2.mono BB.out.size))
        clear bw2
        go_wp2_with fail
        obtain ⟨W6, hW6⟩ : ∃ X9, X9 = ((w2.alloc (.cells #[.bool bx, .slice a_x lx.length c_x] 41)).alloc (.cells #[.int .i64 1] 3)).alloc (.cells #[.bool bx, .slice a_x lx.length c_x, .slice (some ⟨w2.heap.size + 1, 0, none⟩) 1 1] 43) := ⟨_, rfl⟩
        have O_y := Lib.hid (show OwnI W6 W0.heap.size (.slice (some ⟨w2.heap.size + 1, 0, none⟩) 1 1) ly by rw [hW6, HLY.out]; have h := OwnI.lit1 (w2.alloc (.cells #[.bool bx, .slice a_x lx.length c_x] 41)) W0.heap.size 1 (by have := BB.out.size; simp; omega); simp only [World.size_alloc] at h; exact h.alloc _)
        have AP := Lib.hid (show ApartR (.slice a_x lx.length c_x) (.slice (some ⟨w2.heap.size + 1, 0, none⟩) 1 1) from fun g g' e1 e2 e3 => by have h1 := (O_x.out.lt g e1).2; have h2 : w2.heap.size + 1 = g' := (by simpa [Value.ownBlock] using e2); omega)
        replace O_x := Lib.hid (show OwnI W6 W0.heap.size _ _ by rw [hW6]; exact ((O_x.out.alloc _).alloc _).alloc _)
        have M_q := Lib.hid (rx_at (show Rx W6 _ 43 bx (.slice a_x lx.length c_x) (.slice (some ⟨w2.heap.size + 1, 0, none⟩) 1 1) by rw [hW6]; exact Rx.new _ _ _ _ _) (show w2.heap.size + 1 + 1 = _ by simp))
        replace BB := Lib.hid (show Below W0.heap.size W0 W6 by rw [hW6]; exact ((BB.out.alloc BB.out.size _).alloc (Nat.le_trans BB.out.size (by simp)) _).alloc (Nat.le_trans BB.out.size (by simp; omega)) _)
        replace B := Lib.hid (show Below w.heap.size w W6 by rw [hW6]; exact ((B.out.alloc B.out.size _).alloc (Nat.le_trans B.out.size (by simp)) _).alloc (Nat.le_trans B.out.size (by simp; omega)) _)
        rw [← hW6]
        clear hW6
        have hft := spec_ratFormat bx _ lx _ ly W6 ⟨O_x.out.row, O_y.out.row⟩
        rw [TXT.out] at hft
        refine (hft).mono ?_
        rintro e w3 ⟨rfl, bw3⟩
        replace O_x := Lib.hid (O_x.out.below bw3)
        replace O_y := Lib.hid (O_y.out.below bw3)
        replace M_q := Lib.hid (M_q.out.below bw3)
        replace B := Lib.hid (B.out.trans (bw3.mono B.out.size))
        replace BB := Lib.hid (BB.out.trans (bw3.mono BB.out.size))
        clear bw3
        have c0_q := M_q.out.c0
        have c1_q := M_q.out.c1
        have c2_q := M_q.out.c2
        have DD9 := D_r.out.below BB.out
        have BB9 := B.out
        have y0 := DD9.c0; have y1 := DD9.c1; have y2 := DD9.c2; have y3 := DD9.f 0; have y4 := DD9.f 1; have y5 := DD9.f 2
        obtain ⟨e1, e2⟩ := rat_end (b' := false) BB9 DD9 (OwnR.nil _ W0.heap.size) (by decide) (by have := SZ.out; omega) (Nat.le_refl _) (.slice none 0 0) (.slice none 0 0)
        have D8 := Rx.set3 (b' := false) (v' := .slice none 0 0) (d' := .slice none 0 0) DD9
        have hc0 := D8.c0; have hc1 := D8.c1; have hc2 := D8.c2
        go_wp2
        exact bodyPost_ret (v := .tuple #[.agg #[.bool (false), .slice none 0 0, .slice none 0 0], .bool false]) (by simp [results, Tryz.results24, go_sem, hc0, hc1, hc2]) rfl ⟨_, _, rfl, e1, e2⟩

      | true =>
        have HP : prOk s = true := by unfold prOk; rw [h1, h2, h3, hq]; rfl
        have HR := pr_yes HP
        rw [HR.1, HR.2.1, HR.2.2, HP]
        clear HR HP
        have TXT : Hid (ratText (pbB (sTop s)) (pbL (sTop s)) (parseL (sBot s)) = s) := Lib.hid (by rw [hln] at h3 ⊢; rw [ratText_one h3 rfl, hbt, htop])
        have hne := ba_ne0 (show 0 < s.size by rw [htop] at hsz; exact hsz)
        have hne1 := hne.1; have hne2 := hne.2
        rw [h1] at P1
        clear h1 h2 h3 hbt hsz hln hne
        obtain ⟨PP, hPP⟩ : ∃ l, cutAll (hasB ⟨#[47]⟩) s = l := ⟨_, rfl⟩
        have SP := SPL.out
        rw [hPP] at SP hpp
        replace SPL := Lib.hid SP
        have HPP := Lib.hid hpp
        clear SP hPP hpp hq
        rw [htop] at P1 HT
        try rw [htop] at TXT
        try rw [htop]
        obtain ⟨ly, hly⟩ : ∃ t, parseL (sBot s) = t := ⟨_, rfl⟩
        try rw [hly] at HLY
        try rw [hly] at TXT
        try rw [hly]
        try rw [hly] at P2
        clear hly htop hbot
        obtain ⟨bx, hbx⟩ : ∃ t, pbB s = t := ⟨_, rfl⟩
        obtain ⟨lx, hlx⟩ : ∃ t, pbL s = t := ⟨_, rfl⟩
        rw [hbx, hlx] at P1
        try rw [hbx, hlx] at TXT
        try rw [hbx, hlx]
        clear hbx hlx
        obtain ⟨tp, htp⟩ : ∃ t, t = s := ⟨_, rfl⟩
        rw [← htp] at P1 HT HPP
        clear htp
        have C1 := Lib.hid P1
        clear P1
        go_enter Tryz.func24, Tryz.ntmps24
        go_wp2_with fail
        obtain ⟨W0, hW0⟩ : ∃ x, x = (w.alloc (.cells #[.bool false, .slice none 0 0, .slice none 0 0] 43)) := ⟨_, rfl⟩
        have B := Lib.hid (show Below w.heap.size w W0 by rw [hW0]; exact ((Below.refl _ _).alloc (Nat.le_refl _) _))
        have D_r := Lib.hid (rx_at (show Rx W0 _ 43 (false) (.slice none 0 0) (.slice none 0 0) by rw [hW0]; exact Rx.new _ _ _ _ _) (show w.heap.size = _ by simp))
        have SZ := Lib.hid (show W0.heap.size = w.heap.size + 1 by rw [hW0]; simp)
        rw [← hW0]
        clear hW0
        have BB := Lib.hid (Below.refl W0.heap.size W0)
        refine (SPL.out _).mono ?_
        rintro e w1 ⟨vl, rfl, hol, bw1⟩
        have RL0 := Lib.hid (show RowOf .string w1 vl PP from ownsRow_row hol)
        clear hol
        replace B := Lib.hid (B.out.trans (bw1.mono B.out.size))
        replace BB := Lib.hid (BB.out.trans (bw1.mono BB.out.size))
        clear bw1
        obtain ⟨al, cl, hvl, hl1, hl2, hl3⟩ := RL0.out
        subst hvl
        obtain ⟨bl, ol, hal, hc0⟩ := hl3 0 (by rw [HPP.out]; simp)
        subst hal
        rw [Nat.add_zero] at hc0
        simp only [HPP.out, List.getElem_cons_zero] at hc0
        clear hl1 hl2 hl3 RL0
        have hlen : PP.length = 1 := by rw [HPP.out]; simp
        rw [hlen]
        have HC := Lib.hid (show ∀ W : World, Below w1.heap.size w1 W → W.cell? ⟨bl, ol, none⟩ = some (.string tp) from fun W hW => (hW.cell (p := ⟨bl, ol, none⟩) (World.block_lt_of_cell? _ _ hc0)).trans hc0)
        have B91 := Lib.hid (Below.refl w1.heap.size w1)
        go_wp2_with fail
        clear hc0
        refine (C1.out _ HT.out).mono ?_
        rintro e w2 ⟨v_x, rfl, o_x, bw2⟩
        obtain ⟨a_x, c_x, rfl⟩ := o_x.slice
        have O_x := Lib.hid (o_x.base BB.out.size)
        clear o_x
        replace B91 := Lib.hid (B91.out.trans (bw2.mono B91.out.size))
        replace B := Lib.hid (B.out.trans (bw2.mono B.out.size))
        replace BB := Lib.hid (BB.out.trans (bw2.mono BB.out.size))
        clear bw2
        go_wp2_with fail
        obtain ⟨W6, hW6⟩ : ∃ X9, X9 = ((w2.alloc (.cells #[.bool bx, .slice a_x lx.length c_x] 41)).alloc (.cells #[.int .i64 1] 3)).alloc (.cells #[.bool bx, .slice a_x lx.length c_x, .slice (some ⟨w2.heap.size + 1, 0, none⟩) 1 1] 43) := ⟨_, rfl⟩
        have O_y := Lib.hid (show OwnI W6 W0.heap.size (.slice (some ⟨w2.heap.size + 1, 0, none⟩) 1 1) ly by rw [hW6, HLY.out]; have h := OwnI.lit1 (w2.alloc (.cells #[.bool bx, .slice a_x lx.length c_x] 41)) W0.heap.size 1 (by have := BB.out.size; simp; omega); simp only [World.size_alloc] at h; exact h.alloc _)
        have AP := Lib.hid (show ApartR (.slice a_x lx.length c_x) (.slice (some ⟨w2.heap.size + 1, 0, none⟩) 1 1) from fun g g' e1 e2 e3 => by have h1 := (O_x.out.lt g e1).2; have h2 : w2.heap.size + 1 = g' := (by simpa [Value.ownBlock] using e2); omega)
        replace O_x := Lib.hid (show OwnI W6 W0.heap.size _ _ by rw [hW6]; exact ((O_x.out.alloc _).alloc _).alloc _)
        have M_q := Lib.hid (rx_at (show Rx W6 _ 43 bx (.slice a_x lx.length c_x) (.slice (some ⟨w2.heap.size + 1, 0, none⟩) 1 1) by rw [hW6]; exact Rx.new _ _ _ _ _) (show w2.heap.size + 1 + 1 = _ by simp))
        replace BB := Lib.hid (show Below W0.heap.size W0 W6 by rw [hW6]; exact ((BB.out.alloc BB.out.size _).alloc (Nat.le_trans BB.out.size (by simp)) _).alloc (Nat.le_trans BB.out.size (by simp; omega)) _)
        replace B := Lib.hid (show Below w.heap.size w W6 by rw [hW6]; exact ((B.out.alloc B.out.size _).alloc (Nat.le_trans B.out.size (by simp)) _).alloc (Nat.le_trans B.out.size (by simp; omega)) _)
        rw [← hW6]
        clear hW6
        have hft := spec_ratFormat bx _ lx _ ly W6 ⟨O_x.out.row, O_y.out.row⟩
        rw [TXT.out] at hft
        refine (hft).mono ?_
        rintro e w3 ⟨rfl, bw3⟩
        replace O_x := Lib.hid (O_x.out.below bw3)
        replace O_y := Lib.hid (O_y.out.below bw3)
        replace M_q := Lib.hid (M_q.out.below bw3)
        replace B := Lib.hid (B.out.trans (bw3.mono B.out.size))
        replace BB := Lib.hid (BB.out.trans (bw3.mono BB.out.size))
        clear bw3
        have c0_q := M_q.out.c0
        have c1_q := M_q.out.c1
        have c2_q := M_q.out.c2
        go_wp2_with fail
        clear c0_q c1_q c2_q
        have hft2 := spec_ratFormat bx _ lx _ ly w3 ⟨O_x.out.row, O_y.out.row⟩
        rw [TXT.out] at hft2
        refine (hft2).mono ?_
        rintro e w4 ⟨rfl, bw4⟩
        replace O_x := Lib.hid (O_x.out.below bw4)
        replace O_y := Lib.hid (O_y.out.below bw4)
        replace M_q := Lib.hid (M_q.out.below bw4)
        replace B := Lib.hid (B.out.trans (bw4.mono B.out.size))
        replace BB := Lib.hid (BB.out.trans (bw4.mono BB.out.size))
        clear bw4
        have c0_q := M_q.out.c0
        have c1_q := M_q.out.c1
        have c2_q := M_q.out.c2
        have DD9 := D_r.out.below BB.out
        have BB9 := B.out
        have y0 := DD9.c0; have y1 := DD9.c1; have y2 := DD9.c2; have y3 := DD9.f 0; have y4 := DD9.f 1; have y5 := DD9.f 2
        obtain ⟨e1, e2⟩ := rat_end (b' := bx) BB9 DD9 (show OwnR _ W0.heap.size _ _ _ _ from ⟨O_x.out, O_y.out, AP.out⟩) (by decide) (by have := SZ.out; omega) (Nat.le_refl _) (.slice a_x lx.length c_x) (.slice (some ⟨w2.heap.size + 1, 0, none⟩) 1 1)
        have D8 := Rx.set3 (b' := bx) (v' := .slice a_x lx.length c_x) (d' := .slice (some ⟨w2.heap.size + 1, 0, none⟩) 1 1) DD9
        have hc0 := D8.c0; have hc1 := D8.c1; have hc2 := D8.c2
        go_wp2
        exact bodyPost_ret (v := .tuple #[.agg #[.bool (bx), .slice a_x lx.length c_x, .slice (some ⟨w2.heap.size + 1, 0, none⟩) 1 1], .bool true]) (by simp [results, Tryz.results24, go_sem, hc0, hc1, hc2]) rfl ⟨_, _, rfl, e1, e2⟩

  | true =>
    obtain ⟨t1, l1, hpp, hw⟩ := parts_yes hq
    obtain ⟨nl, hnl⟩ : ∃ n, l1.length = n := ⟨_, rfl⟩
    have P1 : ∀ (W : World), (sTop s).size ≤ 1048576 → Calls Tryz.prog 44 #[.string (sTop s)] W fun e w' => ∃ v, e = .returned (.tuple #[.agg #[.bool (pbB (sTop s)), v], .bool (pbOk (sTop s))]) ∧ OwnI w' W.heap.size v (pbL (sTop s)) ∧ Below W.heap.size W w' := fun W h => spec_bigParse _ W h
    have ht1 : t1.size ≤ 1048576 := by obtain ⟨_, _, _, hb5, _⟩ := sQ_yes hq; rcases hw with ⟨h, _⟩ | ⟨h, _⟩; (rw [h, hb5, ByteArray.size_extract]; omega); omega
    have HB := Lib.hid ht1
    clear ht1
    have P2 : ∀ (W : World), t1.size ≤ 1048576 → Calls Tryz.prog 45 #[.string t1] W fun e w' => ∃ v, e = .returned (.tuple #[v, .bool (numB t1)]) ∧ OwnI w' W.heap.size v (parseL t1) ∧ Below W.heap.size W w' := fun W h => spec_parseNat _ W h
    cases h1 : pbOk (sTop s) with
    | false =>
      have HP : prOk s = false := by unfold prOk; rw [h1]; rfl
      have HR := pr_no HP
      rw [HR.1, HR.2.1, HR.2.2, HP]
      clear HR HP
      rw [h1] at P1
      clear h1 hw
      obtain ⟨PP, hPP⟩ : ∃ l, cutAll (hasB ⟨#[47]⟩) s = l := ⟨_, rfl⟩
      have SP := SPL.out
      rw [hPP] at SP hpp
      replace SPL := Lib.hid SP
      have HPP := Lib.hid hpp
      clear SP hPP hpp hq
      obtain ⟨ly, hly⟩ : ∃ t, parseL t1 = t := ⟨_, rfl⟩
      try rw [hly] at HLY
      try rw [hly] at TXT
      try rw [hly]
      try rw [hly] at P2
      clear hly
      obtain ⟨bx, hbx⟩ : ∃ t, pbB (sTop s) = t := ⟨_, rfl⟩
      obtain ⟨lx, hlx⟩ : ∃ t, pbL (sTop s) = t := ⟨_, rfl⟩
      rw [hbx, hlx] at P1
      try rw [hbx, hlx] at TXT
      try rw [hbx, hlx]
      clear hbx hlx
      have HNL := Lib.hid hnl
      clear hnl
      obtain ⟨tp, htp⟩ : ∃ t, sTop s = t := ⟨_, rfl⟩
      rw [htp] at P1 HT HPP
      clear htp
      replace HB := Lib.hid HB.out
      have C2 := Lib.hid P2
      clear P2
      have C1 := Lib.hid P1
      clear P1
      go_enter Tryz.func24, Tryz.ntmps24
      go_wp2_with fail
      obtain ⟨W0, hW0⟩ : ∃ x, x = (w.alloc (.cells #[.bool false, .slice none 0 0, .slice none 0 0] 43)) := ⟨_, rfl⟩
      have B := Lib.hid (show Below w.heap.size w W0 by rw [hW0]; exact ((Below.refl _ _).alloc (Nat.le_refl _) _))
      have D_r := Lib.hid (rx_at (show Rx W0 _ 43 (false) (.slice none 0 0) (.slice none 0 0) by rw [hW0]; exact Rx.new _ _ _ _ _) (show w.heap.size = _ by simp))
      have SZ := Lib.hid (show W0.heap.size = w.heap.size + 1 by rw [hW0]; simp)
      rw [← hW0]
      clear hW0
      have BB := Lib.hid (Below.refl W0.heap.size W0)
      refine (SPL.out _).mono ?_
      rintro e w1 ⟨vl, rfl, hol, bw1⟩
      have RL0 := Lib.hid (show RowOf .string w1 vl PP from ownsRow_row hol)
      clear hol
      replace B := Lib.hid (B.out.trans (bw1.mono B.out.size))
      replace BB := Lib.hid (BB.out.trans (bw1.mono BB.out.size))
      clear bw1
      obtain ⟨al, cl, hvl, hl1, hl2, hl3⟩ := RL0.out
      subst hvl
      obtain ⟨bl, ol, hal, hc0⟩ := hl3 0 (by rw [HPP.out]; simp)
      subst hal
      rw [Nat.add_zero] at hc0
      simp only [HPP.out, List.getElem_cons_zero] at hc0
      obtain ⟨bl', ol', hal', hc1⟩ := hl3 1 (by rw [HPP.out]; simp)
      injection hal' with hal'
      injection hal' with hb1 hb2
      subst hb1 hb2
      simp only [HPP.out, List.getElem_cons_succ, List.getElem_cons_zero] at hc1
      clear hl1 hl2 hl3 RL0
      have hlen : PP.length = nl + 2 := by rw [HPP.out]; simp; exact HNL.out
      rw [hlen]
      have HC := Lib.hid (show ∀ W : World, Below w1.heap.size w1 W → W.cell? ⟨bl, ol, none⟩ = some (.string tp) ∧ W.cell? ⟨bl, ol + 1, none⟩ = some (.string t1) from fun W hW => ⟨(hW.cell (p := ⟨bl, ol, none⟩) (World.block_lt_of_cell? _ _ hc0)).trans hc0, (hW.cell (p := ⟨bl, ol + 1, none⟩) (World.block_lt_of_cell? _ _ hc1)).trans hc1⟩)
      have B91 := Lib.hid (Below.refl w1.heap.size w1)
      have hgt : decide (1 < ((nl + 2 : Nat) : Int)) = true := by simp; omega
      have hgt2 : decide ((1 : Int) < (nl : Int) + 2) = true := by simp; omega
      have hix : (1 : Int) < ((nl + 2 : Nat) : Int) := by omega
      have hix2 : (1 : Int) < (nl : Int) + 2 := by omega
      have hix0 : (0 : Int) < (nl : Int) + 2 := by omega
      go_wp2_with fail
      clear hc0 hc1
      refine (C1.out _ HT.out).mono ?_
      rintro e w2 ⟨v_x, rfl, o_x, bw2⟩
      obtain ⟨a_x, c_x, rfl⟩ := o_x.slice
      have O_x := Lib.hid (o_x.base BB.out.size)
      clear o_x
      replace B91 := Lib.hid (B91.out.trans (bw2.mono B91.out.size))
      replace B := Lib.hid (B.out.trans (bw2.mono B.out.size))
      replace BB := Lib.hid (BB.out.trans (bw2.mono BB.out.size))
      clear bw2
      have bq : Below w1.heap.size w1 ((w2.alloc (.cells #[.bool bx, .slice a_x lx.length c_x] 41)).alloc (.cells #[.int .i64 1] 3)) := (B91.out.alloc B91.out.size _).alloc (Nat.le_trans B91.out.size (by simp)) _
      have hcd := (HC.out _ bq).2
      clear bq
      go_wp2_with fail
      clear hcd
      obtain ⟨W5, hW5⟩ : ∃ X9, X9 = (w2.alloc (.cells #[.bool bx, .slice a_x lx.length c_x] 41)).alloc (.cells #[.int .i64 1] 3) := ⟨_, rfl⟩
      have M_n := Lib.hid (show Bx W5 w2.heap.size 41 bx (.slice a_x lx.length c_x) by rw [hW5]; exact (Bx.new _ _ _ _).alloc _)
      have O_l := Lib.hid (show OwnI W5 W0.heap.size (.slice (some ⟨w2.heap.size + 1, 0, none⟩) 1 1) [1] by rw [hW5]; have h := OwnI.lit1 (w2.alloc (.cells #[.bool bx, .slice a_x lx.length c_x] 41)) W0.heap.size 1 (by have := BB.out.size; simp; omega); simp only [World.size_alloc] at h; exact h)
      have AP := Lib.hid (show ApartR (.slice a_x lx.length c_x) (.slice (some ⟨w2.heap.size + 1, 0, none⟩) 1 1) from fun g g' e1 e2 e3 => by have h1 := (O_x.out.lt g e1).2; have h2 : w2.heap.size + 1 = g' := (by simpa [Value.ownBlock] using e2); omega)
      replace O_x := Lib.hid (show OwnI W5 W0.heap.size _ _ by rw [hW5]; exact (O_x.out.alloc _).alloc _)
      have b5 : Below w2.heap.size w2 W5 := by rw [hW5]; exact ((Below.refl _ _).alloc (Nat.le_refl _) _).alloc (by simp) _
      replace BB := Lib.hid (BB.out.trans (b5.mono BB.out.size))
      replace B := Lib.hid (B.out.trans (b5.mono B.out.size))
      replace B91 := Lib.hid (B91.out.trans (b5.mono B91.out.size))
      rw [← hW5]
      clear hW5 b5
      refine (C2.out _ HB.out).mono ?_
      rintro e w3 ⟨v_y, rfl, o_y, bw3⟩
      obtain ⟨a_y, c_y, rfl⟩ := o_y.slice
      have ap := apart_lo O_x.out (fun g hg => (o_y.lt g hg).1)
      replace O_x := Lib.hid (O_x.out.below bw3)
      replace M_n := Lib.hid (M_n.out.below bw3)
      replace O_l := Lib.hid (O_l.out.below bw3)
      have O_y := Lib.hid (o_y.base BB.out.size)
      clear o_y
      replace B := Lib.hid (B.out.trans (bw3.mono B.out.size))
      replace BB := Lib.hid (BB.out.trans (bw3.mono BB.out.size))
      clear bw3
      replace AP := Lib.hid ap
      clear ap
      have c0_n := M_n.out.c0
      have c1_n := M_n.out.c1
      have DD9 := (D_r.out.below BB.out).alloc (.cells #[.bool bx, .slice a_x lx.length c_x, .slice a_y ly.length c_y] 43)
      have BB9 := B.out.alloc B.out.size (.cells #[.bool bx, .slice a_x lx.length c_x, .slice a_y ly.length c_y] 43)
      have y0 := DD9.c0; have y1 := DD9.c1; have y2 := DD9.c2; have y3 := DD9.f 0; have y4 := DD9.f 1; have y5 := DD9.f 2
      obtain ⟨e1, e2⟩ := rat_end (b' := false) BB9 DD9 (OwnR.nil _ W0.heap.size) (by decide) (by have := SZ.out; omega) (Nat.le_refl _) (.slice none 0 0) (.slice none 0 0)
      have D8 := Rx.set3 (b' := false) (v' := .slice none 0 0) (d' := .slice none 0 0) DD9
      have hc0 := D8.c0; have hc1 := D8.c1; have hc2 := D8.c2
      go_wp2
      exact bodyPost_ret (v := .tuple #[.agg #[.bool (false), .slice none 0 0, .slice none 0 0], .bool false]) (by simp [results, Tryz.results24, go_sem, hc0, hc1, hc2]) rfl ⟨_, _, rfl, e1, e2⟩

    | true =>
      have hbt := bigText_parse h1
      have hsz := pbOk_size h1
      cases h2 : numB t1 with
      | false =>
        have HP : prOk s = false := by have hn : numB (sBot s) = false := (by rcases hw with ⟨rfl, _⟩ | ⟨_, k, hk, hks⟩; exact h2; exact numB_slash hk hks); unfold prOk; rw [h1, hn]; rfl
        have HR := pr_no HP
        rw [HR.1, HR.2.1, HR.2.2, HP]
        clear HR HP
        rw [h1] at P1
        rw [h2] at P2
        clear h1 h2 hw hbt hsz
        obtain ⟨PP, hPP⟩ : ∃ l, cutAll (hasB ⟨#[47]⟩) s = l := ⟨_, rfl⟩
        have SP := SPL.out
        rw [hPP] at SP hpp
        replace SPL := Lib.hid SP
        have HPP := Lib.hid hpp
        clear SP hPP hpp hq
        obtain ⟨ly, hly⟩ : ∃ t, parseL t1 = t := ⟨_, rfl⟩
        try rw [hly] at HLY
        try rw [hly] at TXT
        try rw [hly]
        try rw [hly] at P2
        clear hly
        obtain ⟨bx, hbx⟩ : ∃ t, pbB (sTop s) = t := ⟨_, rfl⟩
        obtain ⟨lx, hlx⟩ : ∃ t, pbL (sTop s) = t := ⟨_, rfl⟩
        rw [hbx, hlx] at P1
        try rw [hbx, hlx] at TXT
        try rw [hbx, hlx]
        clear hbx hlx
        have HNL := Lib.hid hnl
        clear hnl
        obtain ⟨tp, htp⟩ : ∃ t, sTop s = t := ⟨_, rfl⟩
        rw [htp] at P1 HT HPP
        clear htp
        replace HB := Lib.hid HB.out
        have C2 := Lib.hid P2
        clear P2
        have C1 := Lib.hid P1
        clear P1
        go_enter Tryz.func24, Tryz.ntmps24
        go_wp2_with fail
        obtain ⟨W0, hW0⟩ : ∃ x, x = (w.alloc (.cells #[.bool false, .slice none 0 0, .slice none 0 0] 43)) := ⟨_, rfl⟩
        have B := Lib.hid (show Below w.heap.size w W0 by rw [hW0]; exact ((Below.refl _ _).alloc (Nat.le_refl _) _))
        have D_r := Lib.hid (rx_at (show Rx W0 _ 43 (false) (.slice none 0 0) (.slice none 0 0) by rw [hW0]; exact Rx.new _ _ _ _ _) (show w.heap.size = _ by simp))
        have SZ := Lib.hid (show W0.heap.size = w.heap.size + 1 by rw [hW0]; simp)
        rw [← hW0]
        clear hW0
        have BB := Lib.hid (Below.refl W0.heap.size W0)
        refine (SPL.out _).mono ?_
        rintro e w1 ⟨vl, rfl, hol, bw1⟩
        have RL0 := Lib.hid (show RowOf .string w1 vl PP from ownsRow_row hol)
        clear hol
        replace B := Lib.hid (B.out.trans (bw1.mono B.out.size))
        replace BB := Lib.hid (BB.out.trans (bw1.mono BB.out.size))
        clear bw1
        obtain ⟨al, cl, hvl, hl1, hl2, hl3⟩ := RL0.out
        subst hvl
        obtain ⟨bl, ol, hal, hc0⟩ := hl3 0 (by rw [HPP.out]; simp)
        subst hal
        rw [Nat.add_zero] at hc0
        simp only [HPP.out, List.getElem_cons_zero] at hc0
        obtain ⟨bl', ol', hal', hc1⟩ := hl3 1 (by rw [HPP.out]; simp)
        injection hal' with hal'
        injection hal' with hb1 hb2
        subst hb1 hb2
        simp only [HPP.out, List.getElem_cons_succ, List.getElem_cons_zero] at hc1
        clear hl1 hl2 hl3 RL0
        have hlen : PP.length = nl + 2 := by rw [HPP.out]; simp; exact HNL.out
        rw [hlen]
        have HC := Lib.hid (show ∀ W : World, Below w1.heap.size w1 W → W.cell? ⟨bl, ol, none⟩ = some (.string tp) ∧ W.cell? ⟨bl, ol + 1, none⟩ = some (.string t1) from fun W hW => ⟨(hW.cell (p := ⟨bl, ol, none⟩) (World.block_lt_of_cell? _ _ hc0)).trans hc0, (hW.cell (p := ⟨bl, ol + 1, none⟩) (World.block_lt_of_cell? _ _ hc1)).trans hc1⟩)
        have B91 := Lib.hid (Below.refl w1.heap.size w1)
        have hgt : decide (1 < ((nl + 2 : Nat) : Int)) = true := by simp; omega
        have hgt2 : decide ((1 : Int) < (nl : Int) + 2) = true := by simp; omega
        have hix : (1 : Int) < ((nl + 2 : Nat) : Int) := by omega
        have hix2 : (1 : Int) < (nl : Int) + 2 := by omega
        have hix0 : (0 : Int) < (nl : Int) + 2 := by omega
        go_wp2_with fail
        clear hc0 hc1
        refine (C1.out _ HT.out).mono ?_
        rintro e w2 ⟨v_x, rfl, o_x, bw2⟩
        obtain ⟨a_x, c_x, rfl⟩ := o_x.slice
        have O_x := Lib.hid (o_x.base BB.out.size)
        clear o_x
        replace B91 := Lib.hid (B91.out.trans (bw2.mono B91.out.size))
        replace B := Lib.hid (B.out.trans (bw2.mono B.out.size))
        replace BB := Lib.hid (BB.out.trans (bw2.mono BB.out.size))
        clear bw2
        have bq : Below w1.heap.size w1 ((w2.alloc (.cells #[.bool bx, .slice a_x lx.length c_x] 41)).alloc (.cells #[.int .i64 1] 3)) := (B91.out.alloc B91.out.size _).alloc (Nat.le_trans B91.out.size (by simp)) _
        have hcd := (HC.out _ bq).2
        clear bq
        go_wp2_with fail
        clear hcd
        obtain ⟨W5, hW5⟩ : ∃ X9, X9 = (w2.alloc (.cells #[.bool bx, .slice a_x lx.length c_x] 41)).alloc (.cells #[.int .i64 1] 3) := ⟨_, rfl⟩
        have M_n := Lib.hid (show Bx W5 w2.heap.size 41 bx (.slice a_x lx.length c_x) by rw [hW5]; exact (Bx.new _ _ _ _).alloc _)
        have O_l := Lib.hid (show OwnI W5 W0.heap.size (.slice (some ⟨w2.heap.size + 1, 0, none⟩) 1 1) [1] by rw [hW5]; have h := OwnI.lit1 (w2.alloc (.cells #[.bool bx, .slice a_x lx.length c_x] 41)) W0.heap.size 1 (by have := BB.out.size; simp; omega); simp only [World.size_alloc] at h; exact h)
        have AP := Lib.hid (show ApartR (.slice a_x lx.length c_x) (.slice (some ⟨w2.heap.size + 1, 0, none⟩) 1 1) from fun g g' e1 e2 e3 => by have h1 := (O_x.out.lt g e1).2; have h2 : w2.heap.size + 1 = g' := (by simpa [Value.ownBlock] using e2); omega)
        replace O_x := Lib.hid (show OwnI W5 W0.heap.size _ _ by rw [hW5]; exact (O_x.out.alloc _).alloc _)
        have b5 : Below w2.heap.size w2 W5 := by rw [hW5]; exact ((Below.refl _ _).alloc (Nat.le_refl _) _).alloc (by simp) _
        replace BB := Lib.hid (BB.out.trans (b5.mono BB.out.size))
        replace B := Lib.hid (B.out.trans (b5.mono B.out.size))
        replace B91 := Lib.hid (B91.out.trans (b5.mono B91.out.size))
        rw [← hW5]
        clear hW5 b5
        refine (C2.out _ HB.out).mono ?_
        rintro e w3 ⟨v_y, rfl, o_y, bw3⟩
        obtain ⟨a_y, c_y, rfl⟩ := o_y.slice
        have ap := apart_lo O_x.out (fun g hg => (o_y.lt g hg).1)
        replace O_x := Lib.hid (O_x.out.below bw3)
        replace M_n := Lib.hid (M_n.out.below bw3)
        replace O_l := Lib.hid (O_l.out.below bw3)
        have O_y := Lib.hid (o_y.base BB.out.size)
        clear o_y
        replace B := Lib.hid (B.out.trans (bw3.mono B.out.size))
        replace BB := Lib.hid (BB.out.trans (bw3.mono BB.out.size))
        clear bw3
        replace AP := Lib.hid ap
        clear ap
        have c0_n := M_n.out.c0
        have c1_n := M_n.out.c1
        have DD9 := (D_r.out.below BB.out).alloc (.cells #[.bool bx, .slice a_x lx.length c_x, .slice a_y ly.length c_y] 43)
        have BB9 := B.out.alloc B.out.size (.cells #[.bool bx, .slice a_x lx.length c_x, .slice a_y ly.length c_y] 43)
        have y0 := DD9.c0; have y1 := DD9.c1; have y2 := DD9.c2; have y3 := DD9.f 0; have y4 := DD9.f 1; have y5 := DD9.f 2
        obtain ⟨e1, e2⟩ := rat_end (b' := false) BB9 DD9 (OwnR.nil _ W0.heap.size) (by decide) (by have := SZ.out; omega) (Nat.le_refl _) (.slice none 0 0) (.slice none 0 0)
        have D8 := Rx.set3 (b' := false) (v' := .slice none 0 0) (d' := .slice none 0 0) DD9
        have hc0 := D8.c0; have hc1 := D8.c1; have hc2 := D8.c2
        go_wp2
        exact bodyPost_ret (v := .tuple #[.agg #[.bool (false), .slice none 0 0, .slice none 0 0], .bool false]) (by simp [results, Tryz.results24, go_sem, hc0, hc1, hc2]) rfl ⟨_, _, rfl, e1, e2⟩

      | true =>
        have hnt := natText_parse h2
        have hly := parseL_yes h2
        have hsz1 : (sTop s).size < s.size := by obtain ⟨hi, _, h5, _⟩ := sQ_yes hq; rw [h5, ByteArray.size_extract]; omega
        cases h3 : ratOk (pbB (sTop s)) (pbL (sTop s)) (parseL t1) with
        | false =>
          have HP : prOk s = false := by rcases hw with ⟨rfl, _⟩ | ⟨_, k, hk, hks⟩; (unfold prOk; rw [h1, h2, h3]; rfl); (have hn := numB_slash hk hks; unfold prOk; rw [h1, hn]; rfl)
          have HR := pr_no HP
          rw [HR.1, HR.2.1, HR.2.2, HP]
          clear HR HP
          have TXT := Lib.hid (ratText_no h3)
          rw [h1] at P1
          rw [h2] at P2
          clear h1 h2 h3 hw hbt hsz hnt hly hsz1
          obtain ⟨PP, hPP⟩ : ∃ l, cutAll (hasB ⟨#[47]⟩) s = l := ⟨_, rfl⟩
          have SP := SPL.out
          rw [hPP] at SP hpp
          replace SPL := Lib.hid SP
          have HPP := Lib.hid hpp
          clear SP hPP hpp hq
          obtain ⟨ly, hly⟩ : ∃ t, parseL t1 = t := ⟨_, rfl⟩
          try rw [hly] at HLY
          try rw [hly] at TXT
          try rw [hly]
          try rw [hly] at P2
          clear hly
          obtain ⟨bx, hbx⟩ : ∃ t, pbB (sTop s) = t := ⟨_, rfl⟩
          obtain ⟨lx, hlx⟩ : ∃ t, pbL (sTop s) = t := ⟨_, rfl⟩
          rw [hbx, hlx] at P1
          try rw [hbx, hlx] at TXT
          try rw [hbx, hlx]
          clear hbx hlx
          have HNL := Lib.hid hnl
          clear hnl
          obtain ⟨tp, htp⟩ : ∃ t, sTop s = t := ⟨_, rfl⟩
          rw [htp] at P1 HT HPP
          clear htp
          replace HB := Lib.hid HB.out
          have C2 := Lib.hid P2
          clear P2
          have C1 := Lib.hid P1
          clear P1
          go_enter Tryz.func24, Tryz.ntmps24
          go_wp2_with fail
          obtain ⟨W0, hW0⟩ : ∃ x, x = (w.alloc (.cells #[.bool false, .slice none 0 0, .slice none 0 0] 43)) := ⟨_, rfl⟩
          have B := Lib.hid (show Below w.heap.size w W0 by rw [hW0]; exact ((Below.refl _ _).alloc (Nat.le_refl _) _))
          have D_r := Lib.hid (rx_at (show Rx W0 _ 43 (false) (.slice none 0 0) (.slice none 0 0) by rw [hW0]; exact Rx.new _ _ _ _ _) (show w.heap.size = _ by simp))
          have SZ := Lib.hid (show W0.heap.size = w.heap.size + 1 by rw [hW0]; simp)
          rw [← hW0]
          clear hW0
          have BB := Lib.hid (Below.refl W0.heap.size W0)
          refine (SPL.out _).mono ?_
          rintro e w1 ⟨vl, rfl, hol, bw1⟩
          have RL0 := Lib.hid (show RowOf .string w1 vl PP from ownsRow_row hol)
          clear hol
          replace B := Lib.hid (B.out.trans (bw1.mono B.out.size))
          replace BB := Lib.hid (BB.out.trans (bw1.mono BB.out.size))
          clear bw1
          obtain ⟨al, cl, hvl, hl1, hl2, hl3⟩ := RL0.out
          subst hvl
          obtain ⟨bl, ol, hal, hc0⟩ := hl3 0 (by rw [HPP.out]; simp)
          subst hal
          rw [Nat.add_zero] at hc0
          simp only [HPP.out, List.getElem_cons_zero] at hc0
          obtain ⟨bl', ol', hal', hc1⟩ := hl3 1 (by rw [HPP.out]; simp)
          injection hal' with hal'
          injection hal' with hb1 hb2
          subst hb1 hb2
          simp only [HPP.out, List.getElem_cons_succ, List.getElem_cons_zero] at hc1
          clear hl1 hl2 hl3 RL0
          have hlen : PP.length = nl + 2 := by rw [HPP.out]; simp; exact HNL.out
          rw [hlen]
          have HC := Lib.hid (show ∀ W : World, Below w1.heap.size w1 W → W.cell? ⟨bl, ol, none⟩ = some (.string tp) ∧ W.cell? ⟨bl, ol + 1, none⟩ = some (.string t1) from fun W hW => ⟨(hW.cell (p := ⟨bl, ol, none⟩) (World.block_lt_of_cell? _ _ hc0)).trans hc0, (hW.cell (p := ⟨bl, ol + 1, none⟩) (World.block_lt_of_cell? _ _ hc1)).trans hc1⟩)
          have B91 := Lib.hid (Below.refl w1.heap.size w1)
          have hgt : decide (1 < ((nl + 2 : Nat) : Int)) = true := by simp; omega
          have hgt2 : decide ((1 : Int) < (nl : Int) + 2) = true := by simp; omega
          have hix : (1 : Int) < ((nl + 2 : Nat) : Int) := by omega
          have hix2 : (1 : Int) < (nl : Int) + 2 := by omega
          have hix0 : (0 : Int) < (nl : Int) + 2 := by omega
          go_wp2_with fail
          clear hc0 hc1
          refine (C1.out _ HT.out).mono ?_
          rintro e w2 ⟨v_x, rfl, o_x, bw2⟩
          obtain ⟨a_x, c_x, rfl⟩ := o_x.slice
          have O_x := Lib.hid (o_x.base BB.out.size)
          clear o_x
          replace B91 := Lib.hid (B91.out.trans (bw2.mono B91.out.size))
          replace B := Lib.hid (B.out.trans (bw2.mono B.out.size))
          replace BB := Lib.hid (BB.out.trans (bw2.mono BB.out.size))
          clear bw2
          have bq : Below w1.heap.size w1 ((w2.alloc (.cells #[.bool bx, .slice a_x lx.length c_x] 41)).alloc (.cells #[.int .i64 1] 3)) := (B91.out.alloc B91.out.size _).alloc (Nat.le_trans B91.out.size (by simp)) _
          have hcd := (HC.out _ bq).2
          clear bq
          go_wp2_with fail
          clear hcd
          obtain ⟨W5, hW5⟩ : ∃ X9, X9 = (w2.alloc (.cells #[.bool bx, .slice a_x lx.length c_x] 41)).alloc (.cells #[.int .i64 1] 3) := ⟨_, rfl⟩
          have M_n := Lib.hid (show Bx W5 w2.heap.size 41 bx (.slice a_x lx.length c_x) by rw [hW5]; exact (Bx.new _ _ _ _).alloc _)
          have O_l := Lib.hid (show OwnI W5 W0.heap.size (.slice (some ⟨w2.heap.size + 1, 0, none⟩) 1 1) [1] by rw [hW5]; have h := OwnI.lit1 (w2.alloc (.cells #[.bool bx, .slice a_x lx.length c_x] 41)) W0.heap.size 1 (by have := BB.out.size; simp; omega); simp only [World.size_alloc] at h; exact h)
          have AP := Lib.hid (show ApartR (.slice a_x lx.length c_x) (.slice (some ⟨w2.heap.size + 1, 0, none⟩) 1 1) from fun g g' e1 e2 e3 => by have h1 := (O_x.out.lt g e1).2; have h2 : w2.heap.size + 1 = g' := (by simpa [Value.ownBlock] using e2); omega)
          replace O_x := Lib.hid (show OwnI W5 W0.heap.size _ _ by rw [hW5]; exact (O_x.out.alloc _).alloc _)
          have b5 : Below w2.heap.size w2 W5 := by rw [hW5]; exact ((Below.refl _ _).alloc (Nat.le_refl _) _).alloc (by simp) _
          replace BB := Lib.hid (BB.out.trans (b5.mono BB.out.size))
          replace B := Lib.hid (B.out.trans (b5.mono B.out.size))
          replace B91 := Lib.hid (B91.out.trans (b5.mono B91.out.size))
          rw [← hW5]
          clear hW5 b5
          refine (C2.out _ HB.out).mono ?_
          rintro e w3 ⟨v_y, rfl, o_y, bw3⟩
          obtain ⟨a_y, c_y, rfl⟩ := o_y.slice
          have ap := apart_lo O_x.out (fun g hg => (o_y.lt g hg).1)
          replace O_x := Lib.hid (O_x.out.below bw3)
          replace M_n := Lib.hid (M_n.out.below bw3)
          replace O_l := Lib.hid (O_l.out.below bw3)
          have O_y := Lib.hid (o_y.base BB.out.size)
          clear o_y
          replace B := Lib.hid (B.out.trans (bw3.mono B.out.size))
          replace BB := Lib.hid (BB.out.trans (bw3.mono BB.out.size))
          clear bw3
          replace AP := Lib.hid ap
          clear ap
          have c0_n := M_n.out.c0
          have c1_n := M_n.out.c1
          go_wp2_with fail
          clear c0_n c1_n
          obtain ⟨W6, hW6⟩ : ∃ X9, X9 = w3.alloc (.cells #[.bool bx, .slice a_x lx.length c_x, .slice a_y ly.length c_y] 43) := ⟨_, rfl⟩
          have M_q := Lib.hid (show Rx W6 w3.heap.size 43 bx (.slice a_x lx.length c_x) (.slice a_y ly.length c_y) by rw [hW6]; exact Rx.new _ _ _ _ _)
          replace O_x := Lib.hid (show OwnI W6 W0.heap.size _ _ by rw [hW6]; exact O_x.out.alloc _)
          replace O_y := Lib.hid (show OwnI W6 W0.heap.size _ _ by rw [hW6]; exact O_y.out.alloc _)
          replace BB := Lib.hid (show Below W0.heap.size W0 W6 by rw [hW6]; exact BB.out.alloc BB.out.size _)
          replace B := Lib.hid (show Below w.heap.size w W6 by rw [hW6]; exact B.out.alloc B.out.size _)
          rw [← hW6]
          clear hW6 M_n O_l
          have hft := spec_ratFormat bx _ lx _ ly W6 ⟨O_x.out.row, O_y.out.row⟩
          rw [TXT.out] at hft
          refine (hft).mono ?_
          rintro e w4 ⟨rfl, bw4⟩
          replace O_x := Lib.hid (O_x.out.below bw4)
          replace O_y := Lib.hid (O_y.out.below bw4)
          replace M_q := Lib.hid (M_q.out.below bw4)
          replace B := Lib.hid (B.out.trans (bw4.mono B.out.size))
          replace BB := Lib.hid (BB.out.trans (bw4.mono BB.out.size))
          clear bw4
          have c0_q := M_q.out.c0
          have c1_q := M_q.out.c1
          have c2_q := M_q.out.c2
          have DD9 := D_r.out.below BB.out
          have BB9 := B.out
          have y0 := DD9.c0; have y1 := DD9.c1; have y2 := DD9.c2; have y3 := DD9.f 0; have y4 := DD9.f 1; have y5 := DD9.f 2
          obtain ⟨e1, e2⟩ := rat_end (b' := false) BB9 DD9 (OwnR.nil _ W0.heap.size) (by decide) (by have := SZ.out; omega) (Nat.le_refl _) (.slice none 0 0) (.slice none 0 0)
          have D8 := Rx.set3 (b' := false) (v' := .slice none 0 0) (d' := .slice none 0 0) DD9
          have hc0 := D8.c0; have hc1 := D8.c1; have hc2 := D8.c2
          go_wp2
          exact bodyPost_ret (v := .tuple #[.agg #[.bool (false), .slice none 0 0, .slice none 0 0], .bool false]) (by simp [results, Tryz.results24, go_sem, hc0, hc1, hc2]) rfl ⟨_, _, rfl, e1, e2⟩

        | true =>
          by_cases h4 : numV t1 = 1
          · have TXT0 : ratText (pbB (sTop s)) (pbL (sTop s)) (parseL t1) = sTop s := by rw [hly] at h3 ⊢; rw [ratText_one h3 h4, hbt]
            have HP : prOk s = false := by rcases hw with ⟨rfl, _⟩ | ⟨_, k, hk, hks⟩; (unfold prOk; rw [h1, h2, h3, hq, decide_eq_true h4]; rfl); (have hn := numB_slash hk hks; unfold prOk; rw [h1, hn]; rfl)
            have HR := pr_no HP
            rw [HR.1, HR.2.1, HR.2.2, HP]
            clear HR HP
            have hne := ba_ne0 hsz
            have hne1 := hne.1; have hne2 := hne.2
            have hno := (ba_ne (show (sTop s).size ≠ s.size by omega)).2
            have hnq := ba_neL (show (sTop s).size ≠ s.size by omega)
            have hnp : ¬ sTop s = s := fun e => by rw [e] at hsz1; omega
            obtain ⟨tt, htt⟩ : ∃ t, sTop s = t := ⟨_, rfl⟩
            have TXT1 : ratText (pbB (sTop s)) (pbL (sTop s)) (parseL t1) = tt := TXT0.trans htt
            rw [htt] at hne1 hne2 hno hnq hnp
            have TXT := Lib.hid TXT1
            rw [h1] at P1
            rw [h2] at P2
            clear h1 h2 h3 h4 hw hbt hsz hnt hly hsz1 hne TXT0 TXT1 htt
            obtain ⟨PP, hPP⟩ : ∃ l, cutAll (hasB ⟨#[47]⟩) s = l := ⟨_, rfl⟩
            have SP := SPL.out
            rw [hPP] at SP hpp
            replace SPL := Lib.hid SP
            have HPP := Lib.hid hpp
            clear SP hPP hpp hq
            obtain ⟨ly, hly⟩ : ∃ t, parseL t1 = t := ⟨_, rfl⟩
            try rw [hly] at HLY
            try rw [hly] at TXT
            try rw [hly]
            try rw [hly] at P2
            clear hly
            obtain ⟨bx, hbx⟩ : ∃ t, pbB (sTop s) = t := ⟨_, rfl⟩
            obtain ⟨lx, hlx⟩ : ∃ t, pbL (sTop s) = t := ⟨_, rfl⟩
            rw [hbx, hlx] at P1
            try rw [hbx, hlx] at TXT
            try rw [hbx, hlx]
            clear hbx hlx
            have HNL := Lib.hid hnl
            clear hnl
            obtain ⟨tp, htp⟩ : ∃ t, sTop s = t := ⟨_, rfl⟩
            rw [htp] at P1 HT HPP
            clear htp
            replace HB := Lib.hid HB.out
            have C2 := Lib.hid P2
            clear P2
            have C1 := Lib.hid P1
            clear P1
            go_enter Tryz.func24, Tryz.ntmps24
            go_wp2_with fail
            obtain ⟨W0, hW0⟩ : ∃ x, x = (w.alloc (.cells #[.bool false, .slice none 0 0, .slice none 0 0] 43)) := ⟨_, rfl⟩
            have B := Lib.hid (show Below w.heap.size w W0 by rw [hW0]; exact ((Below.refl _ _).alloc (Nat.le_refl _) _))
            have D_r := Lib.hid (rx_at (show Rx W0 _ 43 (false) (.slice none 0 0) (.slice none 0 0) by rw [hW0]; exact Rx.new _ _ _ _ _) (show w.heap.size = _ by simp))
            have SZ := Lib.hid (show W0.heap.size = w.heap.size + 1 by rw [hW0]; simp)
            rw [← hW0]
            clear hW0
            have BB := Lib.hid (Below.refl W0.heap.size W0)
            refine (SPL.out _).mono ?_
            rintro e w1 ⟨vl, rfl, hol, bw1⟩
            have RL0 := Lib.hid (show RowOf .string w1 vl PP from ownsRow_row hol)
            clear hol
            replace B := Lib.hid (B.out.trans (bw1.mono B.out.size))
            replace BB := Lib.hid (BB.out.trans (bw1.mono BB.out.size))
            clear bw1
            obtain ⟨al, cl, hvl, hl1, hl2, hl3⟩ := RL0.out
            subst hvl
            obtain ⟨bl, ol, hal, hc0⟩ := hl3 0 (by rw [HPP.out]; simp)
            subst hal
            rw [Nat.add_zero] at hc0
            simp only [HPP.out, List.getElem_cons_zero] at hc0
            obtain ⟨bl', ol', hal', hc1⟩ := hl3 1 (by rw [HPP.out]; simp)
            injection hal' with hal'
            injection hal' with hb1 hb2
            subst hb1 hb2
            simp only [HPP.out, List.getElem_cons_succ, List.getElem_cons_zero] at hc1
            clear hl1 hl2 hl3 RL0
            have hlen : PP.length = nl + 2 := by rw [HPP.out]; simp; exact HNL.out
            rw [hlen]
            have HC := Lib.hid (show ∀ W : World, Below w1.heap.size w1 W → W.cell? ⟨bl, ol, none⟩ = some (.string tp) ∧ W.cell? ⟨bl, ol + 1, none⟩ = some (.string t1) from fun W hW => ⟨(hW.cell (p := ⟨bl, ol, none⟩) (World.block_lt_of_cell? _ _ hc0)).trans hc0, (hW.cell (p := ⟨bl, ol + 1, none⟩) (World.block_lt_of_cell? _ _ hc1)).trans hc1⟩)
            have B91 := Lib.hid (Below.refl w1.heap.size w1)
            have hgt : decide (1 < ((nl + 2 : Nat) : Int)) = true := by simp; omega
            have hgt2 : decide ((1 : Int) < (nl : Int) + 2) = true := by simp; omega
            have hix : (1 : Int) < ((nl + 2 : Nat) : Int) := by omega
            have hix2 : (1 : Int) < (nl : Int) + 2 := by omega
            have hix0 : (0 : Int) < (nl : Int) + 2 := by omega
            go_wp2_with fail
            clear hc0 hc1
            refine (C1.out _ HT.out).mono ?_
            rintro e w2 ⟨v_x, rfl, o_x, bw2⟩
            obtain ⟨a_x, c_x, rfl⟩ := o_x.slice
            have O_x := Lib.hid (o_x.base BB.out.size)
            clear o_x
            replace B91 := Lib.hid (B91.out.trans (bw2.mono B91.out.size))
            replace B := Lib.hid (B.out.trans (bw2.mono B.out.size))
            replace BB := Lib.hid (BB.out.trans (bw2.mono BB.out.size))
            clear bw2
            have bq : Below w1.heap.size w1 ((w2.alloc (.cells #[.bool bx, .slice a_x lx.length c_x] 41)).alloc (.cells #[.int .i64 1] 3)) := (B91.out.alloc B91.out.size _).alloc (Nat.le_trans B91.out.size (by simp)) _
            have hcd := (HC.out _ bq).2
            clear bq
            go_wp2_with fail
            clear hcd
            obtain ⟨W5, hW5⟩ : ∃ X9, X9 = (w2.alloc (.cells #[.bool bx, .slice a_x lx.length c_x] 41)).alloc (.cells #[.int .i64 1] 3) := ⟨_, rfl⟩
            have M_n := Lib.hid (show Bx W5 w2.heap.size 41 bx (.slice a_x lx.length c_x) by rw [hW5]; exact (Bx.new _ _ _ _).alloc _)
            have O_l := Lib.hid (show OwnI W5 W0.heap.size (.slice (some ⟨w2.heap.size + 1, 0, none⟩) 1 1) [1] by rw [hW5]; have h := OwnI.lit1 (w2.alloc (.cells #[.bool bx, .slice a_x lx.length c_x] 41)) W0.heap.size 1 (by have := BB.out.size; simp; omega); simp only [World.size_alloc] at h; exact h)
            have AP := Lib.hid (show ApartR (.slice a_x lx.length c_x) (.slice (some ⟨w2.heap.size + 1, 0, none⟩) 1 1) from fun g g' e1 e2 e3 => by have h1 := (O_x.out.lt g e1).2; have h2 : w2.heap.size + 1 = g' := (by simpa [Value.ownBlock] using e2); omega)
            replace O_x := Lib.hid (show OwnI W5 W0.heap.size _ _ by rw [hW5]; exact (O_x.out.alloc _).alloc _)
            have b5 : Below w2.heap.size w2 W5 := by rw [hW5]; exact ((Below.refl _ _).alloc (Nat.le_refl _) _).alloc (by simp) _
            replace BB := Lib.hid (BB.out.trans (b5.mono BB.out.size))
            replace B := Lib.hid (B.out.trans (b5.mono B.out.size))
            replace B91 := Lib.hid (B91.out.trans (b5.mono B91.out.size))
            rw [← hW5]
            clear hW5 b5
            refine (C2.out _ HB.out).mono ?_
            rintro e w3 ⟨v_y, rfl, o_y, bw3⟩
            obtain ⟨a_y, c_y, rfl⟩ := o_y.slice
            have ap := apart_lo O_x.out (fun g hg => (o_y.lt g hg).1)
            replace O_x := Lib.hid (O_x.out.below bw3)
            replace M_n := Lib.hid (M_n.out.below bw3)
            replace O_l := Lib.hid (O_l.out.below bw3)
            have O_y := Lib.hid (o_y.base BB.out.size)
            clear o_y
            replace B := Lib.hid (B.out.trans (bw3.mono B.out.size))
            replace BB := Lib.hid (BB.out.trans (bw3.mono BB.out.size))
            clear bw3
            replace AP := Lib.hid ap
            clear ap
            have c0_n := M_n.out.c0
            have c1_n := M_n.out.c1
            go_wp2_with fail
            clear c0_n c1_n
            obtain ⟨W6, hW6⟩ : ∃ X9, X9 = w3.alloc (.cells #[.bool bx, .slice a_x lx.length c_x, .slice a_y ly.length c_y] 43) := ⟨_, rfl⟩
            have M_q := Lib.hid (show Rx W6 w3.heap.size 43 bx (.slice a_x lx.length c_x) (.slice a_y ly.length c_y) by rw [hW6]; exact Rx.new _ _ _ _ _)
            replace O_x := Lib.hid (show OwnI W6 W0.heap.size _ _ by rw [hW6]; exact O_x.out.alloc _)
            replace O_y := Lib.hid (show OwnI W6 W0.heap.size _ _ by rw [hW6]; exact O_y.out.alloc _)
            replace BB := Lib.hid (show Below W0.heap.size W0 W6 by rw [hW6]; exact BB.out.alloc BB.out.size _)
            replace B := Lib.hid (show Below w.heap.size w W6 by rw [hW6]; exact B.out.alloc B.out.size _)
            rw [← hW6]
            clear hW6 M_n O_l
            have hft := spec_ratFormat bx _ lx _ ly W6 ⟨O_x.out.row, O_y.out.row⟩
            rw [TXT.out] at hft
            refine (hft).mono ?_
            rintro e w4 ⟨rfl, bw4⟩
            replace O_x := Lib.hid (O_x.out.below bw4)
            replace O_y := Lib.hid (O_y.out.below bw4)
            replace M_q := Lib.hid (M_q.out.below bw4)
            replace B := Lib.hid (B.out.trans (bw4.mono B.out.size))
            replace BB := Lib.hid (BB.out.trans (bw4.mono BB.out.size))
            clear bw4
            have c0_q := M_q.out.c0
            have c1_q := M_q.out.c1
            have c2_q := M_q.out.c2
            go_wp2_with fail
            clear c0_q c1_q c2_q
            have hft2 := spec_ratFormat bx _ lx _ ly w4 ⟨O_x.out.row, O_y.out.row⟩
            rw [TXT.out] at hft2
            refine (hft2).mono ?_
            rintro e w5 ⟨rfl, bw5⟩
            replace O_x := Lib.hid (O_x.out.below bw5)
            replace O_y := Lib.hid (O_y.out.below bw5)
            replace M_q := Lib.hid (M_q.out.below bw5)
            replace B := Lib.hid (B.out.trans (bw5.mono B.out.size))
            replace BB := Lib.hid (BB.out.trans (bw5.mono BB.out.size))
            clear bw5
            have c0_q := M_q.out.c0
            have c1_q := M_q.out.c1
            have c2_q := M_q.out.c2
            have DD9 := D_r.out.below BB.out
            have BB9 := B.out
            have y0 := DD9.c0; have y1 := DD9.c1; have y2 := DD9.c2; have y3 := DD9.f 0; have y4 := DD9.f 1; have y5 := DD9.f 2
            obtain ⟨e1, e2⟩ := rat_end (b' := false) BB9 DD9 (OwnR.nil _ W0.heap.size) (by decide) (by have := SZ.out; omega) (Nat.le_refl _) (.slice none 0 0) (.slice none 0 0)
            have D8 := Rx.set3 (b' := false) (v' := .slice none 0 0) (d' := .slice none 0 0) DD9
            have hc0 := D8.c0; have hc1 := D8.c1; have hc2 := D8.c2
            go_wp2
            exact bodyPost_ret (v := .tuple #[.agg #[.bool (false), .slice none 0 0, .slice none 0 0], .bool false]) (by simp [results, Tryz.results24, go_sem, hc0, hc1, hc2]) rfl ⟨_, _, rfl, e1, e2⟩

          have TXT0 : ratText (pbB (sTop s)) (pbL (sTop s)) (parseL t1) = sTop s ++ ⟨#[47]⟩ ++ t1 := by rw [hly] at h3 hnt ⊢; rw [ratText_more h3 h4, hbt, hnt]
          have htsz : (sTop s ++ ⟨#[47]⟩ ++ t1).size = (sTop s).size + 1 + t1.size := by rw [ByteArray.size_append, ByteArray.size_append]; rfl
          have hne := ba_ne0 (show 0 < (sTop s ++ ⟨#[47]⟩ ++ t1).size by omega)
          have hne1 := hne.1; have hne2 := hne.2
          rcases hw with ⟨hw1, _⟩ | ⟨hw1, k, hk, hks⟩
          · have HP : prOk s = true := by unfold prOk; rw [← hw1, h1, h2, h3, hq, decide_eq_false h4]; rfl
            have HR := pr_yes HP
            rw [HR.1, HR.2.1, HR.2.2, HP, ← hw1]
            clear HR HP
            have hss : sTop s ++ ⟨#[47]⟩ ++ t1 = s := by rw [hw1]; exact slash_join hq
            rw [hss] at TXT0 hne1 hne2
            have TXT := Lib.hid TXT0
            rw [h1] at P1
            rw [h2] at P2
            clear h1 h2 h3 h4 hw1 hbt hsz hnt hly hsz1 hne TXT0 htsz hss
            obtain ⟨PP, hPP⟩ : ∃ l, cutAll (hasB ⟨#[47]⟩) s = l := ⟨_, rfl⟩
            have SP := SPL.out
            rw [hPP] at SP hpp
            replace SPL := Lib.hid SP
            have HPP := Lib.hid hpp
            clear SP hPP hpp hq
            obtain ⟨ly, hly⟩ : ∃ t, parseL t1 = t := ⟨_, rfl⟩
            try rw [hly] at HLY
            try rw [hly] at TXT
            try rw [hly]
            try rw [hly] at P2
            clear hly
            obtain ⟨bx, hbx⟩ : ∃ t, pbB (sTop s) = t := ⟨_, rfl⟩
            obtain ⟨lx, hlx⟩ : ∃ t, pbL (sTop s) = t := ⟨_, rfl⟩
            rw [hbx, hlx] at P1
            try rw [hbx, hlx] at TXT
            try rw [hbx, hlx]
            clear hbx hlx
            have HNL := Lib.hid hnl
            clear hnl
            obtain ⟨tp, htp⟩ : ∃ t, sTop s = t := ⟨_, rfl⟩
            rw [htp] at P1 HT HPP
            clear htp
            replace HB := Lib.hid HB.out
            have C2 := Lib.hid P2
            clear P2
            have C1 := Lib.hid P1
            clear P1
            go_enter Tryz.func24, Tryz.ntmps24
            go_wp2_with fail
            obtain ⟨W0, hW0⟩ : ∃ x, x = (w.alloc (.cells #[.bool false, .slice none 0 0, .slice none 0 0] 43)) := ⟨_, rfl⟩
            have B := Lib.hid (show Below w.heap.size w W0 by rw [hW0]; exact ((Below.refl _ _).alloc (Nat.le_refl _) _))
            have D_r := Lib.hid (rx_at (show Rx W0 _ 43 (false) (.slice none 0 0) (.slice none 0 0) by rw [hW0]; exact Rx.new _ _ _ _ _) (show w.heap.size = _ by simp))
            have SZ := Lib.hid (show W0.heap.size = w.heap.size + 1 by rw [hW0]; simp)
            rw [← hW0]
            clear hW0
            have BB := Lib.hid (Below.refl W0.heap.size W0)
            refine (SPL.out _).mono ?_
            rintro e w1 ⟨vl, rfl, hol, bw1⟩
            have RL0 := Lib.hid (show RowOf .string w1 vl PP from ownsRow_row hol)
            clear hol
            replace B := Lib.hid (B.out.trans (bw1.mono B.out.size))
            replace BB := Lib.hid (BB.out.trans (bw1.mono BB.out.size))
            clear bw1
            obtain ⟨al, cl, hvl, hl1, hl2, hl3⟩ := RL0.out
            subst hvl
            obtain ⟨bl, ol, hal, hc0⟩ := hl3 0 (by rw [HPP.out]; simp)
            subst hal
            rw [Nat.add_zero] at hc0
            simp only [HPP.out, List.getElem_cons_zero] at hc0
            obtain ⟨bl', ol', hal', hc1⟩ := hl3 1 (by rw [HPP.out]; simp)
            injection hal' with hal'
            injection hal' with hb1 hb2
            subst hb1 hb2
            simp only [HPP.out, List.getElem_cons_succ, List.getElem_cons_zero] at hc1
            clear hl1 hl2 hl3 RL0
            have hlen : PP.length = nl + 2 := by rw [HPP.out]; simp; exact HNL.out
            rw [hlen]
            have HC := Lib.hid (show ∀ W : World, Below w1.heap.size w1 W → W.cell? ⟨bl, ol, none⟩ = some (.string tp) ∧ W.cell? ⟨bl, ol + 1, none⟩ = some (.string t1) from fun W hW => ⟨(hW.cell (p := ⟨bl, ol, none⟩) (World.block_lt_of_cell? _ _ hc0)).trans hc0, (hW.cell (p := ⟨bl, ol + 1, none⟩) (World.block_lt_of_cell? _ _ hc1)).trans hc1⟩)
            have B91 := Lib.hid (Below.refl w1.heap.size w1)
            have hgt : decide (1 < ((nl + 2 : Nat) : Int)) = true := by simp; omega
            have hgt2 : decide ((1 : Int) < (nl : Int) + 2) = true := by simp; omega
            have hix : (1 : Int) < ((nl + 2 : Nat) : Int) := by omega
            have hix2 : (1 : Int) < (nl : Int) + 2 := by omega
            have hix0 : (0 : Int) < (nl : Int) + 2 := by omega
            go_wp2_with fail
            clear hc0 hc1
            refine (C1.out _ HT.out).mono ?_
            rintro e w2 ⟨v_x, rfl, o_x, bw2⟩
            obtain ⟨a_x, c_x, rfl⟩ := o_x.slice
            have O_x := Lib.hid (o_x.base BB.out.size)
            clear o_x
            replace B91 := Lib.hid (B91.out.trans (bw2.mono B91.out.size))
            replace B := Lib.hid (B.out.trans (bw2.mono B.out.size))
            replace BB := Lib.hid (BB.out.trans (bw2.mono BB.out.size))
            clear bw2
            have bq : Below w1.heap.size w1 ((w2.alloc (.cells #[.bool bx, .slice a_x lx.length c_x] 41)).alloc (.cells #[.int .i64 1] 3)) := (B91.out.alloc B91.out.size _).alloc (Nat.le_trans B91.out.size (by simp)) _
            have hcd := (HC.out _ bq).2
            clear bq
            go_wp2_with fail
            clear hcd
            obtain ⟨W5, hW5⟩ : ∃ X9, X9 = (w2.alloc (.cells #[.bool bx, .slice a_x lx.length c_x] 41)).alloc (.cells #[.int .i64 1] 3) := ⟨_, rfl⟩
            have M_n := Lib.hid (show Bx W5 w2.heap.size 41 bx (.slice a_x lx.length c_x) by rw [hW5]; exact (Bx.new _ _ _ _).alloc _)
            have O_l := Lib.hid (show OwnI W5 W0.heap.size (.slice (some ⟨w2.heap.size + 1, 0, none⟩) 1 1) [1] by rw [hW5]; have h := OwnI.lit1 (w2.alloc (.cells #[.bool bx, .slice a_x lx.length c_x] 41)) W0.heap.size 1 (by have := BB.out.size; simp; omega); simp only [World.size_alloc] at h; exact h)
            have AP := Lib.hid (show ApartR (.slice a_x lx.length c_x) (.slice (some ⟨w2.heap.size + 1, 0, none⟩) 1 1) from fun g g' e1 e2 e3 => by have h1 := (O_x.out.lt g e1).2; have h2 : w2.heap.size + 1 = g' := (by simpa [Value.ownBlock] using e2); omega)
            replace O_x := Lib.hid (show OwnI W5 W0.heap.size _ _ by rw [hW5]; exact (O_x.out.alloc _).alloc _)
            have b5 : Below w2.heap.size w2 W5 := by rw [hW5]; exact ((Below.refl _ _).alloc (Nat.le_refl _) _).alloc (by simp) _
            replace BB := Lib.hid (BB.out.trans (b5.mono BB.out.size))
            replace B := Lib.hid (B.out.trans (b5.mono B.out.size))
            replace B91 := Lib.hid (B91.out.trans (b5.mono B91.out.size))
            rw [← hW5]
            clear hW5 b5
            refine (C2.out _ HB.out).mono ?_
            rintro e w3 ⟨v_y, rfl, o_y, bw3⟩
            obtain ⟨a_y, c_y, rfl⟩ := o_y.slice
            have ap := apart_lo O_x.out (fun g hg => (o_y.lt g hg).1)
            replace O_x := Lib.hid (O_x.out.below bw3)
            replace M_n := Lib.hid (M_n.out.below bw3)
            replace O_l := Lib.hid (O_l.out.below bw3)
            have O_y := Lib.hid (o_y.base BB.out.size)
            clear o_y
            replace B := Lib.hid (B.out.trans (bw3.mono B.out.size))
            replace BB := Lib.hid (BB.out.trans (bw3.mono BB.out.size))
            clear bw3
            replace AP := Lib.hid ap
            clear ap
            have c0_n := M_n.out.c0
            have c1_n := M_n.out.c1
            go_wp2_with fail
            clear c0_n c1_n
            obtain ⟨W6, hW6⟩ : ∃ X9, X9 = w3.alloc (.cells #[.bool bx, .slice a_x lx.length c_x, .slice a_y ly.length c_y] 43) := ⟨_, rfl⟩
            have M_q := Lib.hid (show Rx W6 w3.heap.size 43 bx (.slice a_x lx.length c_x) (.slice a_y ly.length c_y) by rw [hW6]; exact Rx.new _ _ _ _ _)
            replace O_x := Lib.hid (show OwnI W6 W0.heap.size _ _ by rw [hW6]; exact O_x.out.alloc _)
            replace O_y := Lib.hid (show OwnI W6 W0.heap.size _ _ by rw [hW6]; exact O_y.out.alloc _)
            replace BB := Lib.hid (show Below W0.heap.size W0 W6 by rw [hW6]; exact BB.out.alloc BB.out.size _)
            replace B := Lib.hid (show Below w.heap.size w W6 by rw [hW6]; exact B.out.alloc B.out.size _)
            rw [← hW6]
            clear hW6 M_n O_l
            have hft := spec_ratFormat bx _ lx _ ly W6 ⟨O_x.out.row, O_y.out.row⟩
            rw [TXT.out] at hft
            refine (hft).mono ?_
            rintro e w4 ⟨rfl, bw4⟩
            replace O_x := Lib.hid (O_x.out.below bw4)
            replace O_y := Lib.hid (O_y.out.below bw4)
            replace M_q := Lib.hid (M_q.out.below bw4)
            replace B := Lib.hid (B.out.trans (bw4.mono B.out.size))
            replace BB := Lib.hid (BB.out.trans (bw4.mono BB.out.size))
            clear bw4
            have c0_q := M_q.out.c0
            have c1_q := M_q.out.c1
            have c2_q := M_q.out.c2
            go_wp2_with fail
            clear c0_q c1_q c2_q
            have hft2 := spec_ratFormat bx _ lx _ ly w4 ⟨O_x.out.row, O_y.out.row⟩
            rw [TXT.out] at hft2
            refine (hft2).mono ?_
            rintro e w5 ⟨rfl, bw5⟩
            replace O_x := Lib.hid (O_x.out.below bw5)
            replace O_y := Lib.hid (O_y.out.below bw5)
            replace M_q := Lib.hid (M_q.out.below bw5)
            replace B := Lib.hid (B.out.trans (bw5.mono B.out.size))
            replace BB := Lib.hid (BB.out.trans (bw5.mono BB.out.size))
            clear bw5
            have c0_q := M_q.out.c0
            have c1_q := M_q.out.c1
            have c2_q := M_q.out.c2
            have DD9 := D_r.out.below BB.out
            have BB9 := B.out
            have y0 := DD9.c0; have y1 := DD9.c1; have y2 := DD9.c2; have y3 := DD9.f 0; have y4 := DD9.f 1; have y5 := DD9.f 2
            obtain ⟨e1, e2⟩ := rat_end (b' := bx) BB9 DD9 (show OwnR _ W0.heap.size _ _ _ _ from ⟨O_x.out, O_y.out, AP.out⟩) (by decide) (by have := SZ.out; omega) (Nat.le_refl _) (.slice a_x lx.length c_x) (.slice a_y ly.length c_y)
            have D8 := Rx.set3 (b' := bx) (v' := .slice a_x lx.length c_x) (d' := .slice a_y ly.length c_y) DD9
            have hc0 := D8.c0; have hc1 := D8.c1; have hc2 := D8.c2
            go_wp2
            exact bodyPost_ret (v := .tuple #[.agg #[.bool (bx), .slice a_x lx.length c_x, .slice a_y ly.length c_y], .bool true]) (by simp [results, Tryz.results24, go_sem, hc0, hc1, hc2]) rfl ⟨_, _, rfl, e1, e2⟩

          · skip
            have HP : prOk s = false := by have hn := numB_slash hk hks; unfold prOk; rw [h1, hn]; rfl
            have HR := pr_no HP
            rw [HR.1, HR.2.1, HR.2.2, HP]
            clear HR HP
            have hno := (ba_ne (show (sTop s ++ ⟨#[47]⟩ ++ t1).size ≠ s.size by omega)).2
            have hnq := ba_neL (show (sTop s ++ ⟨#[47]⟩ ++ t1).size ≠ s.size by omega)
            have hnp : ¬ sTop s ++ ⟨#[47]⟩ ++ t1 = s := fun e => by rw [e] at htsz; omega
            obtain ⟨tt, htt⟩ : ∃ t, sTop s ++ ⟨#[47]⟩ ++ t1 = t := ⟨_, rfl⟩
            rw [htt] at TXT0 hne1 hne2 hno hnq hnp
            have TXT := Lib.hid TXT0
            rw [h1] at P1
            rw [h2] at P2
            clear h1 h2 h3 h4 hw1 hbt hsz hnt hly hsz1 hne TXT0 htt htsz hk hks
            obtain ⟨PP, hPP⟩ : ∃ l, cutAll (hasB ⟨#[47]⟩) s = l := ⟨_, rfl⟩
            have SP := SPL.out
            rw [hPP] at SP hpp
            replace SPL := Lib.hid SP
            have HPP := Lib.hid hpp
            clear SP hPP hpp hq
            obtain ⟨ly, hly⟩ : ∃ t, parseL t1 = t := ⟨_, rfl⟩
            try rw [hly] at HLY
            try rw [hly] at TXT
            try rw [hly]
            try rw [hly] at P2
            clear hly
            obtain ⟨bx, hbx⟩ : ∃ t, pbB (sTop s) = t := ⟨_, rfl⟩
            obtain ⟨lx, hlx⟩ : ∃ t, pbL (sTop s) = t := ⟨_, rfl⟩
            rw [hbx, hlx] at P1
            try rw [hbx, hlx] at TXT
            try rw [hbx, hlx]
            clear hbx hlx
            have HNL := Lib.hid hnl
            clear hnl
            obtain ⟨tp, htp⟩ : ∃ t, sTop s = t := ⟨_, rfl⟩
            rw [htp] at P1 HT HPP
            clear htp
            replace HB := Lib.hid HB.out
            have C2 := Lib.hid P2
            clear P2
            have C1 := Lib.hid P1
            clear P1
            go_enter Tryz.func24, Tryz.ntmps24
            go_wp2_with fail
            obtain ⟨W0, hW0⟩ : ∃ x, x = (w.alloc (.cells #[.bool false, .slice none 0 0, .slice none 0 0] 43)) := ⟨_, rfl⟩
            have B := Lib.hid (show Below w.heap.size w W0 by rw [hW0]; exact ((Below.refl _ _).alloc (Nat.le_refl _) _))
            have D_r := Lib.hid (rx_at (show Rx W0 _ 43 (false) (.slice none 0 0) (.slice none 0 0) by rw [hW0]; exact Rx.new _ _ _ _ _) (show w.heap.size = _ by simp))
            have SZ := Lib.hid (show W0.heap.size = w.heap.size + 1 by rw [hW0]; simp)
            rw [← hW0]
            clear hW0
            have BB := Lib.hid (Below.refl W0.heap.size W0)
            refine (SPL.out _).mono ?_
            rintro e w1 ⟨vl, rfl, hol, bw1⟩
            have RL0 := Lib.hid (show RowOf .string w1 vl PP from ownsRow_row hol)
            clear hol
            replace B := Lib.hid (B.out.trans (bw1.mono B.out.size))
            replace BB := Lib.hid (BB.out.trans (bw1.mono BB.out.size))
            clear bw1
            obtain ⟨al, cl, hvl, hl1, hl2, hl3⟩ := RL0.out
            subst hvl
            obtain ⟨bl, ol, hal, hc0⟩ := hl3 0 (by rw [HPP.out]; simp)
            subst hal
            rw [Nat.add_zero] at hc0
            simp only [HPP.out, List.getElem_cons_zero] at hc0
            obtain ⟨bl', ol', hal', hc1⟩ := hl3 1 (by rw [HPP.out]; simp)
            injection hal' with hal'
            injection hal' with hb1 hb2
            subst hb1 hb2
            simp only [HPP.out, List.getElem_cons_succ, List.getElem_cons_zero] at hc1
            clear hl1 hl2 hl3 RL0
            have hlen : PP.length = nl + 2 := by rw [HPP.out]; simp; exact HNL.out
            rw [hlen]
            have HC := Lib.hid (show ∀ W : World, Below w1.heap.size w1 W → W.cell? ⟨bl, ol, none⟩ = some (.string tp) ∧ W.cell? ⟨bl, ol + 1, none⟩ = some (.string t1) from fun W hW => ⟨(hW.cell (p := ⟨bl, ol, none⟩) (World.block_lt_of_cell? _ _ hc0)).trans hc0, (hW.cell (p := ⟨bl, ol + 1, none⟩) (World.block_lt_of_cell? _ _ hc1)).trans hc1⟩)
            have B91 := Lib.hid (Below.refl w1.heap.size w1)
            have hgt : decide (1 < ((nl + 2 : Nat) : Int)) = true := by simp; omega
            have hgt2 : decide ((1 : Int) < (nl : Int) + 2) = true := by simp; omega
            have hix : (1 : Int) < ((nl + 2 : Nat) : Int) := by omega
            have hix2 : (1 : Int) < (nl : Int) + 2 := by omega
            have hix0 : (0 : Int) < (nl : Int) + 2 := by omega
            go_wp2_with fail
            clear hc0 hc1
            refine (C1.out _ HT.out).mono ?_
            rintro e w2 ⟨v_x, rfl, o_x, bw2⟩
            obtain ⟨a_x, c_x, rfl⟩ := o_x.slice
            have O_x := Lib.hid (o_x.base BB.out.size)
            clear o_x
            replace B91 := Lib.hid (B91.out.trans (bw2.mono B91.out.size))
            replace B := Lib.hid (B.out.trans (bw2.mono B.out.size))
            replace BB := Lib.hid (BB.out.trans (bw2.mono BB.out.size))
            clear bw2
            have bq : Below w1.heap.size w1 ((w2.alloc (.cells #[.bool bx, .slice a_x lx.length c_x] 41)).alloc (.cells #[.int .i64 1] 3)) := (B91.out.alloc B91.out.size _).alloc (Nat.le_trans B91.out.size (by simp)) _
            have hcd := (HC.out _ bq).2
            clear bq
            go_wp2_with fail
            clear hcd
            obtain ⟨W5, hW5⟩ : ∃ X9, X9 = (w2.alloc (.cells #[.bool bx, .slice a_x lx.length c_x] 41)).alloc (.cells #[.int .i64 1] 3) := ⟨_, rfl⟩
            have M_n := Lib.hid (show Bx W5 w2.heap.size 41 bx (.slice a_x lx.length c_x) by rw [hW5]; exact (Bx.new _ _ _ _).alloc _)
            have O_l := Lib.hid (show OwnI W5 W0.heap.size (.slice (some ⟨w2.heap.size + 1, 0, none⟩) 1 1) [1] by rw [hW5]; have h := OwnI.lit1 (w2.alloc (.cells #[.bool bx, .slice a_x lx.length c_x] 41)) W0.heap.size 1 (by have := BB.out.size; simp; omega); simp only [World.size_alloc] at h; exact h)
            have AP := Lib.hid (show ApartR (.slice a_x lx.length c_x) (.slice (some ⟨w2.heap.size + 1, 0, none⟩) 1 1) from fun g g' e1 e2 e3 => by have h1 := (O_x.out.lt g e1).2; have h2 : w2.heap.size + 1 = g' := (by simpa [Value.ownBlock] using e2); omega)
            replace O_x := Lib.hid (show OwnI W5 W0.heap.size _ _ by rw [hW5]; exact (O_x.out.alloc _).alloc _)
            have b5 : Below w2.heap.size w2 W5 := by rw [hW5]; exact ((Below.refl _ _).alloc (Nat.le_refl _) _).alloc (by simp) _
            replace BB := Lib.hid (BB.out.trans (b5.mono BB.out.size))
            replace B := Lib.hid (B.out.trans (b5.mono B.out.size))
            replace B91 := Lib.hid (B91.out.trans (b5.mono B91.out.size))
            rw [← hW5]
            clear hW5 b5
            refine (C2.out _ HB.out).mono ?_
            rintro e w3 ⟨v_y, rfl, o_y, bw3⟩
            obtain ⟨a_y, c_y, rfl⟩ := o_y.slice
            have ap := apart_lo O_x.out (fun g hg => (o_y.lt g hg).1)
            replace O_x := Lib.hid (O_x.out.below bw3)
            replace M_n := Lib.hid (M_n.out.below bw3)
            replace O_l := Lib.hid (O_l.out.below bw3)
            have O_y := Lib.hid (o_y.base BB.out.size)
            clear o_y
            replace B := Lib.hid (B.out.trans (bw3.mono B.out.size))
            replace BB := Lib.hid (BB.out.trans (bw3.mono BB.out.size))
            clear bw3
            replace AP := Lib.hid ap
            clear ap
            have c0_n := M_n.out.c0
            have c1_n := M_n.out.c1
            go_wp2_with fail
            clear c0_n c1_n
            obtain ⟨W6, hW6⟩ : ∃ X9, X9 = w3.alloc (.cells #[.bool bx, .slice a_x lx.length c_x, .slice a_y ly.length c_y] 43) := ⟨_, rfl⟩
            have M_q := Lib.hid (show Rx W6 w3.heap.size 43 bx (.slice a_x lx.length c_x) (.slice a_y ly.length c_y) by rw [hW6]; exact Rx.new _ _ _ _ _)
            replace O_x := Lib.hid (show OwnI W6 W0.heap.size _ _ by rw [hW6]; exact O_x.out.alloc _)
            replace O_y := Lib.hid (show OwnI W6 W0.heap.size _ _ by rw [hW6]; exact O_y.out.alloc _)
            replace BB := Lib.hid (show Below W0.heap.size W0 W6 by rw [hW6]; exact BB.out.alloc BB.out.size _)
            replace B := Lib.hid (show Below w.heap.size w W6 by rw [hW6]; exact B.out.alloc B.out.size _)
            rw [← hW6]
            clear hW6 M_n O_l
            have hft := spec_ratFormat bx _ lx _ ly W6 ⟨O_x.out.row, O_y.out.row⟩
            rw [TXT.out] at hft
            refine (hft).mono ?_
            rintro e w4 ⟨rfl, bw4⟩
            replace O_x := Lib.hid (O_x.out.below bw4)
            replace O_y := Lib.hid (O_y.out.below bw4)
            replace M_q := Lib.hid (M_q.out.below bw4)
            replace B := Lib.hid (B.out.trans (bw4.mono B.out.size))
            replace BB := Lib.hid (BB.out.trans (bw4.mono BB.out.size))
            clear bw4
            have c0_q := M_q.out.c0
            have c1_q := M_q.out.c1
            have c2_q := M_q.out.c2
            go_wp2_with fail
            clear c0_q c1_q c2_q
            have hft2 := spec_ratFormat bx _ lx _ ly w4 ⟨O_x.out.row, O_y.out.row⟩
            rw [TXT.out] at hft2
            refine (hft2).mono ?_
            rintro e w5 ⟨rfl, bw5⟩
            replace O_x := Lib.hid (O_x.out.below bw5)
            replace O_y := Lib.hid (O_y.out.below bw5)
            replace M_q := Lib.hid (M_q.out.below bw5)
            replace B := Lib.hid (B.out.trans (bw5.mono B.out.size))
            replace BB := Lib.hid (BB.out.trans (bw5.mono BB.out.size))
            clear bw5
            have c0_q := M_q.out.c0
            have c1_q := M_q.out.c1
            have c2_q := M_q.out.c2
            have DD9 := D_r.out.below BB.out
            have BB9 := B.out
            have y0 := DD9.c0; have y1 := DD9.c1; have y2 := DD9.c2; have y3 := DD9.f 0; have y4 := DD9.f 1; have y5 := DD9.f 2
            obtain ⟨e1, e2⟩ := rat_end (b' := false) BB9 DD9 (OwnR.nil _ W0.heap.size) (by decide) (by have := SZ.out; omega) (Nat.le_refl _) (.slice none 0 0) (.slice none 0 0)
            have D8 := Rx.set3 (b' := false) (v' := .slice none 0 0) (d' := .slice none 0 0) DD9
            have hc0 := D8.c0; have hc1 := D8.c1; have hc2 := D8.c2
            go_wp2
            exact bodyPost_ret (v := .tuple #[.agg #[.bool (false), .slice none 0 0, .slice none 0 0], .bool false]) (by simp [results, Tryz.results24, go_sem, hc0, hc1, hc2]) rfl ⟨_, _, rfl, e1, e2⟩


end Go.Proofs.YtdajldenjeanhaaGreatDoor
