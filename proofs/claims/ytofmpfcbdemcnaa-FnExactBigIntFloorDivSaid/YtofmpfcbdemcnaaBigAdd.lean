/- Sums of signed numbers: l03Add of the model, plus of the program. -/
import Derived.Test.YtofmpfcbdemcnaaBigMake
import Derived.Test.YtofmpfcbdemcnaaCmpLaw
import Derived.Deep.RegionHeld3
namespace Go.Proofs.Ytofmpfcbdemcnaa
open Go.RowKit

/-- sign and magnitude of a sum -/
def sgAddB (b0 : Bool) (x : Nat) (b1 : Bool) (y : Nat) : Bool := if b0 = b1 then b0 else if y ≤ x then b0 else b1
def sgAddN (b0 : Bool) (x : Nat) (b1 : Bool) (y : Nat) : Nat := if b0 = b1 then x + y else if y ≤ x then x - y else y - x
theorem sgAdd_same (b : Bool) (x y : Nat) : sgAddB b x b y = b ∧ sgAddN b x b y = x + y := by unfold sgAddB sgAddN; simp
theorem sgAdd_left {b0 b1 : Bool} (h : b0 ≠ b1) {x y : Nat} (hxy : y ≤ x) : sgAddB b0 x b1 y = b0 ∧ sgAddN b0 x b1 y = x - y := by unfold sgAddB sgAddN; rw [if_neg h, if_neg h, if_pos hxy, if_pos hxy]; exact ⟨rfl, rfl⟩
theorem sgAdd_right {b0 b1 : Bool} (h : b0 ≠ b1) {x y : Nat} (hxy : ¬ y ≤ x) : sgAddB b0 x b1 y = b1 ∧ sgAddN b0 x b1 y = y - x := by unfold sgAddB sgAddN; rw [if_neg h, if_neg h, if_neg hxy, if_neg hxy]; exact ⟨rfl, rfl⟩
theorem ret_agg {a b : Bool} {v : Value} (h : a = b) : Ending.returned (.agg #[.bool a, v]) = .returned (.agg #[.bool b, v]) := by rw [h]
theorem cmp_geq {x y : Nat} : (0 ≤ cmpN x y) ↔ y ≤ x := by unfold cmpN; split <;> (try split) <;> omega
theorem cmp_gtr {x y : Nat} : (0 < cmpN x y) ↔ y < x := by unfold cmpN; split <;> (try split) <;> omega
/-- limbs, as a row that may have zeros at its end -/
theorem row_limF {w : World} {v : Value} {x : Nat} (h : RowOf iV w v (limI x)) : RowOf iV w v (listF (nlen x) (digF x)) := h
/-- what stands behind the last store of a signed result -/
theorem big_end {w wn : World} {p B : Nat} {v : Value} {l : List Int} (hB : Below w.heap.size w wn) (ho : OwnI wn B v l) (hp : p < B) (h1 : w.heap.size ≤ B) (h2 : w.heap.size ≤ p) (x y : Value) :
    OwnI ((wn.setCell ⟨p, 0, none⟩ x).setCell ⟨p, 1, none⟩ y) w.heap.size v l ∧ Below w.heap.size w ((wn.setCell ⟨p, 0, none⟩ x).setCell ⟨p, 1, none⟩ y) :=
  ⟨((ho.old hp 0 x).old hp 1 y).base h1, (hB.setCell h2 x).setCell h2 y⟩

set_option maxHeartbeats 1000000 in
theorem spec_addBig (b0 : Bool) (va : Value) (x : Nat) (b1 : Bool) (vb : Value) (y : Nat) (w : World) (ha : RowOf iV w va (limI x)) (hb : RowOf iV w vb (limI y)) (hx : nlen x ≤ 400) (hy : nlen y ≤ 400) :
    Calls Try.prog 48 #[.agg #[.bool b0, va], .agg #[.bool b1, vb]] w fun e w' => ∃ v, e = .returned (.agg #[.bool (sgB (sgAddB b0 x b1 y) (capL (sgAddN b0 x b1 y))), v]) ∧ OwnI w' w.heap.size v (capL (sgAddN b0 x b1 y)) ∧ Below w.heap.size w w' := by
  have RA := Lib.hid ha
  have RB := Lib.hid hb
  obtain ⟨aa, ca, rfl, h1, h2, h3⟩ := ha
  obtain ⟨ab, cb, rfl, h4, h5, h6⟩ := hb
  clear h1 h2 h3 h4 h5 h6
  rw [limI_length] at RA ⊢
  rw [limI_length] at RB ⊢
  obtain ⟨nx, hnx⟩ : ∃ n, nlen x = n := ⟨_, rfl⟩
  obtain ⟨ny, hny⟩ : ∃ n, nlen y = n := ⟨_, rfl⟩
  have HX := Lib.hid hx
  have HY := Lib.hid hy
  rw [hnx] at RA ⊢
  rw [hny] at RB ⊢
  clear hnx hny hx hy
  by_cases hb : b0 = b1
  · subst hb
    have HE := Lib.hid (sgAdd_same b0 x y)
    have hbb : (b0 == b0) = true := by simp
    rw [HE.out.1, HE.out.2]
    go_enter Try.func48, Try.ntmps48
    go_wp2_with fail
    obtain ⟨W0, hW0⟩ : ∃ x, x = (((w.alloc (.cells #[.bool b0, .slice aa nx ca] 27)).alloc (.cells #[.bool b0, .slice ab ny cb] 27)).alloc (.cells #[.bool false, .slice none 0 0] 27)) := ⟨_, rfl⟩
    have B := Lib.hid (show Below w.heap.size w W0 by rw [hW0]; exact ((((Below.refl _ _).alloc (Nat.le_refl _) _).alloc (by simp) _).alloc (by simp; omega) _))
    have D_x := Lib.hid (bx_at (show Bx W0 _ 27 b0 (.slice aa nx ca) by rw [hW0]; exact ((Bx.new _ _ _ _).alloc _).alloc _) (show w.heap.size = _ by simp))
    have D_y := Lib.hid (bx_at (show Bx W0 _ 27 b0 (.slice ab ny cb) by rw [hW0]; exact (Bx.new _ _ _ _).alloc _) (show (w.heap.size + 1) = _ by simp))
    have D_r := Lib.hid (bx_at (show Bx W0 _ 27 false (.slice none 0 0) by rw [hW0]; exact Bx.new _ _ _ _) (show (w.heap.size + 1 + 1) = _ by simp))
    have SZ := Lib.hid (show W0.heap.size = w.heap.size + 1 + 1 + 1 by rw [hW0]; simp)
    rw [← hW0]
    clear hW0
    have c0_x := D_x.out.c0
    have c1_x := D_x.out.c1
    have c0_y := D_y.out.c0
    have c1_y := D_y.out.c1
    have c0_r := D_r.out.c0
    have c1_r := D_r.out.c1
    have f0_r := D_r.out.f0
    have f1_r := D_r.out.f1
    have lt_x := D_x.out.lt
    have lt_y := D_y.out.lt
    have lt_r := D_r.out.lt
    go_region_held3 (fun w' => w'.cell? ⟨w.heap.size, 0, none⟩ = some (.bool b0) ∧ w'.cell? ⟨w.heap.size, 1, none⟩ = some ((.slice aa nx ca)) ∧ w'.cell? ⟨(w.heap.size + 1), 0, none⟩ = some (.bool b0) ∧ w'.cell? ⟨(w.heap.size + 1), 1, none⟩ = some ((.slice ab ny cb))) (first | exact ⟨d2_0_x, d2_1_x, d2_0_y, d2_1_y⟩ | exact ⟨d1_0_x, d1_1_x, d1_0_y, d1_1_y⟩ | exact ⟨(cell_far (by omega) _ _).trans d2_0_x, (cell_far (by omega) _ _).trans d2_1_x, (cell_far (by omega) _ _).trans d2_0_y, (cell_far (by omega) _ _).trans d2_1_y⟩ | exact ⟨c0_x, c1_x, c0_y, c1_y⟩)
      (first
        | (have := bb1; go_at_call 42; refine (spec_make b0 _ (x + y) m _ o_q.row hq).mono ?_; rintro e w2 ⟨v_r0, rfl, o_r0, bw2⟩; obtain ⟨a_r0, c_r0, rfl⟩ := o_r0.slice; have bb2 : Below W0.heap.size W0 w2 := bb1.trans (bw2.mono bb1.size); have d2_0_x := (bb2.cell (p := ⟨w.heap.size, 0, none⟩) lt_x).trans c0_x; have d2_1_x := (bb2.cell (p := ⟨w.heap.size, 1, none⟩) lt_x).trans c1_x; have d2_0_y := (bb2.cell (p := ⟨(w.heap.size + 1), 0, none⟩) lt_y).trans c0_y; have d2_1_y := (bb2.cell (p := ⟨(w.heap.size + 1), 1, none⟩) lt_y).trans c1_y; have d2_0_r := (bb2.cell (p := ⟨(w.heap.size + 1 + 1), 0, none⟩) lt_r).trans c0_r; have d2_1_r := (bb2.cell (p := ⟨(w.heap.size + 1 + 1), 1, none⟩) lt_r).trans c1_r; have e2_0_r := (bb2.frozen (p := ⟨(w.heap.size + 1 + 1), 0, none⟩) lt_r).trans f0_r; have e2_1_r := (bb2.frozen (p := ⟨(w.heap.size + 1 + 1), 1, none⟩) lt_r).trans f1_r)
        | (go_at_call 55; refine (spec_add _ _ x y _ (rowOf_below RA.out (B.out.trans (Below.mono (by first | exact Below.refl _ _ | exact (Below.refl _ _).drew) B.out.size))) (rowOf_below RB.out (B.out.trans (Below.mono (by first | exact Below.refl _ _ | exact (Below.refl _ _).drew) B.out.size))) (by have := HX.out; omega) (by have := HY.out; omega)).mono ?_; rintro e w1 ⟨v_q, rfl, m, o_q, hq, bw1⟩; have bb1 : Below W0.heap.size W0 w1 := (by first | exact bw1 | exact ((Below.refl _ _).drew).trans bw1); have d1_0_x := (bb1.cell (p := ⟨w.heap.size, 0, none⟩) lt_x).trans c0_x; have d1_1_x := (bb1.cell (p := ⟨w.heap.size, 1, none⟩) lt_x).trans c1_x; have d1_0_y := (bb1.cell (p := ⟨(w.heap.size + 1), 0, none⟩) lt_y).trans c0_y; have d1_1_y := (bb1.cell (p := ⟨(w.heap.size + 1), 1, none⟩) lt_y).trans c1_y; have d1_0_r := (bb1.cell (p := ⟨(w.heap.size + 1 + 1), 0, none⟩) lt_r).trans c0_r; have d1_1_r := (bb1.cell (p := ⟨(w.heap.size + 1 + 1), 1, none⟩) lt_r).trans c1_r; have e1_0_r := (bb1.frozen (p := ⟨(w.heap.size + 1 + 1), 0, none⟩) lt_r).trans f0_r; have e1_1_r := (bb1.frozen (p := ⟨(w.heap.size + 1 + 1), 1, none⟩) lt_r).trans f1_r))
    clear bw1
    have bw1 := bb1
    replace D_x := Lib.hid (D_x.out.below bw1)
    replace D_y := Lib.hid (D_y.out.below bw1)
    replace D_r := Lib.hid (D_r.out.below bw1)
    have Z1 := Lib.hid bw1.size
    replace B := Lib.hid (B.out.trans (bw1.mono B.out.size))
    clear bw1
    replace D_x := Lib.hid (D_x.out.below bw2)
    replace D_y := Lib.hid (D_y.out.below bw2)
    replace D_r := Lib.hid (D_r.out.below bw2)
    have Z2 := Lib.hid bw2.size
    replace B := Lib.hid (B.out.trans (bw2.mono B.out.size))
    have O_r0 := Lib.hid o_r0
    clear o_r0
    clear bw2
    clear bb1 bb2
    clear c0_x c1_x
    clear c0_y c1_y
    clear lt_x
    clear lt_y
    clear lt_r
    clear c0_r c1_r f0_r f1_r
    have c0_r := D_r.out.c0
    have c1_r := D_r.out.c1
    have f0_r := D_r.out.f0
    have f1_r := D_r.out.f1
    go_wp2
    obtain ⟨e1, e2⟩ := big_end (p := (w.heap.size + 1 + 1)) B.out O_r0.out (by have := SZ.out; have := Z1.out; have := Z2.out; omega) (by have := SZ.out; have := Z1.out; have := Z2.out; omega) (by omega) (.bool (sgB b0 (capL (x + y)))) (.slice a_r0 (capL (x + y)).length c_r0)
    exact bodyPost_ret (v := .agg #[.bool (sgB b0 (capL (x + y))), .slice a_r0 (capL (x + y)).length c_r0]) (by simp [results, Try.results48, go_sem, c0_r, c1_r]) rfl ⟨_, rfl, e1, e2⟩
  · have hbb : (b0 == b1) = false := by simpa using hb
    by_cases hxy : y ≤ x
    · have HE := Lib.hid (sgAdd_left hb hxy)
      have hc : 0 ≤ cmpN x y := cmp_geq.2 hxy
      have HXY := Lib.hid hxy
      clear hb hxy
      obtain ⟨cm, hcm⟩ : ∃ c, cmpN x y = c := ⟨_, rfl⟩
      rw [hcm] at hc
      rw [HE.out.1, HE.out.2]
      have HCM := Lib.hid hcm
      clear hcm
      go_enter Try.func48, Try.ntmps48
      go_wp2_with fail
      obtain ⟨W0, hW0⟩ : ∃ x, x = (((w.alloc (.cells #[.bool b0, .slice aa nx ca] 27)).alloc (.cells #[.bool b1, .slice ab ny cb] 27)).alloc (.cells #[.bool false, .slice none 0 0] 27)) := ⟨_, rfl⟩
      have B := Lib.hid (show Below w.heap.size w W0 by rw [hW0]; exact ((((Below.refl _ _).alloc (Nat.le_refl _) _).alloc (by simp) _).alloc (by simp; omega) _))
      have D_x := Lib.hid (bx_at (show Bx W0 _ 27 b0 (.slice aa nx ca) by rw [hW0]; exact ((Bx.new _ _ _ _).alloc _).alloc _) (show w.heap.size = _ by simp))
      have D_y := Lib.hid (bx_at (show Bx W0 _ 27 b1 (.slice ab ny cb) by rw [hW0]; exact (Bx.new _ _ _ _).alloc _) (show (w.heap.size + 1) = _ by simp))
      have D_r := Lib.hid (bx_at (show Bx W0 _ 27 false (.slice none 0 0) by rw [hW0]; exact Bx.new _ _ _ _) (show (w.heap.size + 1 + 1) = _ by simp))
      have SZ := Lib.hid (show W0.heap.size = w.heap.size + 1 + 1 + 1 by rw [hW0]; simp)
      rw [← hW0]
      clear hW0
      refine (spec_cmp _ _ x y _ (rowOf_below RA.out B.out) (rowOf_below RB.out B.out) (by have := HX.out; omega) (by have := HY.out; omega)).mono ?_
      rw [HCM.out]
      rintro e w1 ⟨rfl, b1'⟩
      replace D_x := Lib.hid (D_x.out.below b1')
      replace D_y := Lib.hid (D_y.out.below b1')
      replace D_r := Lib.hid (D_r.out.below b1')
      have Z1 := Lib.hid b1'.size
      replace B := Lib.hid (B.out.trans (b1'.mono B.out.size))
      clear b1'
      have c0_x := D_x.out.c0
      have c1_x := D_x.out.c1
      have c0_y := D_y.out.c0
      have c1_y := D_y.out.c1
      go_wp2_with fail
      have c0_r := D_r.out.c0
      have c1_r := D_r.out.c1
      have f0_r := D_r.out.f0
      have f1_r := D_r.out.f1
      have lt_x := D_x.out.lt
      have lt_y := D_y.out.lt
      have lt_r := D_r.out.lt
      go_region_held3 (fun w' => w'.cell? ⟨w.heap.size, 0, none⟩ = some (.bool b0) ∧ w'.cell? ⟨w.heap.size, 1, none⟩ = some ((.slice aa nx ca)) ∧ w'.cell? ⟨(w.heap.size + 1), 0, none⟩ = some (.bool b1) ∧ w'.cell? ⟨(w.heap.size + 1), 1, none⟩ = some ((.slice ab ny cb))) (first | exact ⟨d3_0_x, d3_1_x, d3_0_y, d3_1_y⟩ | exact ⟨d2_0_x, d2_1_x, d2_0_y, d2_1_y⟩ | exact ⟨(cell_far (by omega) _ _).trans d3_0_x, (cell_far (by omega) _ _).trans d3_1_x, (cell_far (by omega) _ _).trans d3_0_y, (cell_far (by omega) _ _).trans d3_1_y⟩ | exact ⟨c0_x, c1_x, c0_y, c1_y⟩)
        (first
          | (have := bb2; go_at_call 42; refine (spec_make b0 _ (x - y) _ _ (row_limF o_q.row) (Nat.le_refl _)).mono ?_; rintro e w3 ⟨v_r0, rfl, o_r0, bw3⟩; obtain ⟨a_r0, c_r0, rfl⟩ := o_r0.slice; have bb3 : Below w1.heap.size w1 w3 := bb2.trans (bw3.mono bb2.size); have d3_0_x := (bb3.cell (p := ⟨w.heap.size, 0, none⟩) lt_x).trans c0_x; have d3_1_x := (bb3.cell (p := ⟨w.heap.size, 1, none⟩) lt_x).trans c1_x; have d3_0_y := (bb3.cell (p := ⟨(w.heap.size + 1), 0, none⟩) lt_y).trans c0_y; have d3_1_y := (bb3.cell (p := ⟨(w.heap.size + 1), 1, none⟩) lt_y).trans c1_y; have d3_0_r := (bb3.cell (p := ⟨(w.heap.size + 1 + 1), 0, none⟩) lt_r).trans c0_r; have d3_1_r := (bb3.cell (p := ⟨(w.heap.size + 1 + 1), 1, none⟩) lt_r).trans c1_r; have e3_0_r := (bb3.frozen (p := ⟨(w.heap.size + 1 + 1), 0, none⟩) lt_r).trans f0_r; have e3_1_r := (bb3.frozen (p := ⟨(w.heap.size + 1 + 1), 1, none⟩) lt_r).trans f1_r)
          | (go_at_call 56; refine (spec_sub _ _ x y _ (rowOf_below RA.out (B.out.trans (Below.mono (by first | exact Below.refl _ _ | exact (Below.refl _ _).drew) B.out.size))) (rowOf_below RB.out (B.out.trans (Below.mono (by first | exact Below.refl _ _ | exact (Below.refl _ _).drew) B.out.size))) (by have := HXY.out; omega) (by have := HX.out; have := HY.out; omega) (by have := HX.out; have := HY.out; omega)).mono ?_; rintro e w2 ⟨v_q, rfl, o_q, bw2⟩; have bb2 : Below w1.heap.size w1 w2 := (by first | exact bw2 | exact ((Below.refl _ _).drew).trans bw2); have d2_0_x := (bb2.cell (p := ⟨w.heap.size, 0, none⟩) lt_x).trans c0_x; have d2_1_x := (bb2.cell (p := ⟨w.heap.size, 1, none⟩) lt_x).trans c1_x; have d2_0_y := (bb2.cell (p := ⟨(w.heap.size + 1), 0, none⟩) lt_y).trans c0_y; have d2_1_y := (bb2.cell (p := ⟨(w.heap.size + 1), 1, none⟩) lt_y).trans c1_y; have d2_0_r := (bb2.cell (p := ⟨(w.heap.size + 1 + 1), 0, none⟩) lt_r).trans c0_r; have d2_1_r := (bb2.cell (p := ⟨(w.heap.size + 1 + 1), 1, none⟩) lt_r).trans c1_r; have e2_0_r := (bb2.frozen (p := ⟨(w.heap.size + 1 + 1), 0, none⟩) lt_r).trans f0_r; have e2_1_r := (bb2.frozen (p := ⟨(w.heap.size + 1 + 1), 1, none⟩) lt_r).trans f1_r))
      clear bw2
      have bw2 := bb2
      replace D_x := Lib.hid (D_x.out.below bw2)
      replace D_y := Lib.hid (D_y.out.below bw2)
      replace D_r := Lib.hid (D_r.out.below bw2)
      have Z2 := Lib.hid bw2.size
      replace B := Lib.hid (B.out.trans (bw2.mono B.out.size))
      clear bw2
      replace D_x := Lib.hid (D_x.out.below bw3)
      replace D_y := Lib.hid (D_y.out.below bw3)
      replace D_r := Lib.hid (D_r.out.below bw3)
      have Z3 := Lib.hid bw3.size
      replace B := Lib.hid (B.out.trans (bw3.mono B.out.size))
      have O_r0 := Lib.hid o_r0
      clear o_r0
      clear bw3
      clear bb2 bb3
      clear c0_x c1_x
      clear c0_y c1_y
      clear lt_x
      clear lt_y
      clear lt_r
      clear c0_r c1_r f0_r f1_r
      have c0_r := D_r.out.c0
      have c1_r := D_r.out.c1
      have f0_r := D_r.out.f0
      have f1_r := D_r.out.f1
      go_wp2
      obtain ⟨e1, e2⟩ := big_end (p := (w.heap.size + 1 + 1)) B.out O_r0.out (by have := SZ.out; have := Z1.out; have := Z2.out; have := Z3.out; omega) (by have := SZ.out; have := Z1.out; have := Z2.out; have := Z3.out; omega) (by omega) (.bool (sgB b0 (capL (x - y)))) (.slice a_r0 (capL (x - y)).length c_r0)
      exact bodyPost_ret (v := .agg #[.bool (sgB b0 (capL (x - y))), .slice a_r0 (capL (x - y)).length c_r0]) (by simp [results, Try.results48, go_sem, c0_r, c1_r]) rfl ⟨_, rfl, e1, e2⟩
    · have HE := Lib.hid (sgAdd_right hb hxy)
      have hc : ¬ 0 ≤ cmpN x y := fun h => hxy (cmp_geq.1 h)
      have HXY := Lib.hid hxy
      clear hb hxy
      obtain ⟨cm, hcm⟩ : ∃ c, cmpN x y = c := ⟨_, rfl⟩
      rw [hcm] at hc
      rw [HE.out.1, HE.out.2]
      have HCM := Lib.hid hcm
      clear hcm
      go_enter Try.func48, Try.ntmps48
      go_wp2_with fail
      obtain ⟨W0, hW0⟩ : ∃ x, x = (((w.alloc (.cells #[.bool b0, .slice aa nx ca] 27)).alloc (.cells #[.bool b1, .slice ab ny cb] 27)).alloc (.cells #[.bool false, .slice none 0 0] 27)) := ⟨_, rfl⟩
      have B := Lib.hid (show Below w.heap.size w W0 by rw [hW0]; exact ((((Below.refl _ _).alloc (Nat.le_refl _) _).alloc (by simp) _).alloc (by simp; omega) _))
      have D_x := Lib.hid (bx_at (show Bx W0 _ 27 b0 (.slice aa nx ca) by rw [hW0]; exact ((Bx.new _ _ _ _).alloc _).alloc _) (show w.heap.size = _ by simp))
      have D_y := Lib.hid (bx_at (show Bx W0 _ 27 b1 (.slice ab ny cb) by rw [hW0]; exact (Bx.new _ _ _ _).alloc _) (show (w.heap.size + 1) = _ by simp))
      have D_r := Lib.hid (bx_at (show Bx W0 _ 27 false (.slice none 0 0) by rw [hW0]; exact Bx.new _ _ _ _) (show (w.heap.size + 1 + 1) = _ by simp))
      have SZ := Lib.hid (show W0.heap.size = w.heap.size + 1 + 1 + 1 by rw [hW0]; simp)
      rw [← hW0]
      clear hW0
      refine (spec_cmp _ _ x y _ (rowOf_below RA.out B.out) (rowOf_below RB.out B.out) (by have := HX.out; omega) (by have := HY.out; omega)).mono ?_
      rw [HCM.out]
      rintro e w1 ⟨rfl, b1'⟩
      replace D_x := Lib.hid (D_x.out.below b1')
      replace D_y := Lib.hid (D_y.out.below b1')
      replace D_r := Lib.hid (D_r.out.below b1')
      have Z1 := Lib.hid b1'.size
      replace B := Lib.hid (B.out.trans (b1'.mono B.out.size))
      clear b1'
      have c0_x := D_x.out.c0
      have c1_x := D_x.out.c1
      have c0_y := D_y.out.c0
      have c1_y := D_y.out.c1
      go_wp2_with fail
      have c0_r := D_r.out.c0
      have c1_r := D_r.out.c1
      have f0_r := D_r.out.f0
      have f1_r := D_r.out.f1
      have lt_x := D_x.out.lt
      have lt_y := D_y.out.lt
      have lt_r := D_r.out.lt
      go_region_held3 (fun w' => w'.cell? ⟨w.heap.size, 0, none⟩ = some (.bool b0) ∧ w'.cell? ⟨w.heap.size, 1, none⟩ = some ((.slice aa nx ca)) ∧ w'.cell? ⟨(w.heap.size + 1), 0, none⟩ = some (.bool b1) ∧ w'.cell? ⟨(w.heap.size + 1), 1, none⟩ = some ((.slice ab ny cb))) (first | exact ⟨d3_0_x, d3_1_x, d3_0_y, d3_1_y⟩ | exact ⟨d2_0_x, d2_1_x, d2_0_y, d2_1_y⟩ | exact ⟨(cell_far (by omega) _ _).trans d3_0_x, (cell_far (by omega) _ _).trans d3_1_x, (cell_far (by omega) _ _).trans d3_0_y, (cell_far (by omega) _ _).trans d3_1_y⟩ | exact ⟨c0_x, c1_x, c0_y, c1_y⟩)
        (first
          | (have := bb2; go_at_call 42; refine (spec_make b1 _ (y - x) _ _ (row_limF o_q.row) (Nat.le_refl _)).mono ?_; rintro e w3 ⟨v_r0, rfl, o_r0, bw3⟩; obtain ⟨a_r0, c_r0, rfl⟩ := o_r0.slice; have bb3 : Below w1.heap.size w1 w3 := bb2.trans (bw3.mono bb2.size); have d3_0_x := (bb3.cell (p := ⟨w.heap.size, 0, none⟩) lt_x).trans c0_x; have d3_1_x := (bb3.cell (p := ⟨w.heap.size, 1, none⟩) lt_x).trans c1_x; have d3_0_y := (bb3.cell (p := ⟨(w.heap.size + 1), 0, none⟩) lt_y).trans c0_y; have d3_1_y := (bb3.cell (p := ⟨(w.heap.size + 1), 1, none⟩) lt_y).trans c1_y; have d3_0_r := (bb3.cell (p := ⟨(w.heap.size + 1 + 1), 0, none⟩) lt_r).trans c0_r; have d3_1_r := (bb3.cell (p := ⟨(w.heap.size + 1 + 1), 1, none⟩) lt_r).trans c1_r; have e3_0_r := (bb3.frozen (p := ⟨(w.heap.size + 1 + 1), 0, none⟩) lt_r).trans f0_r; have e3_1_r := (bb3.frozen (p := ⟨(w.heap.size + 1 + 1), 1, none⟩) lt_r).trans f1_r)
          | (go_at_call 56; refine (spec_sub _ _ y x _ (rowOf_below RB.out (B.out.trans (Below.mono (by first | exact Below.refl _ _ | exact (Below.refl _ _).drew) B.out.size))) (rowOf_below RA.out (B.out.trans (Below.mono (by first | exact Below.refl _ _ | exact (Below.refl _ _).drew) B.out.size))) (by have := HXY.out; omega) (by have := HX.out; have := HY.out; omega) (by have := HX.out; have := HY.out; omega)).mono ?_; rintro e w2 ⟨v_q, rfl, o_q, bw2⟩; have bb2 : Below w1.heap.size w1 w2 := (by first | exact bw2 | exact ((Below.refl _ _).drew).trans bw2); have d2_0_x := (bb2.cell (p := ⟨w.heap.size, 0, none⟩) lt_x).trans c0_x; have d2_1_x := (bb2.cell (p := ⟨w.heap.size, 1, none⟩) lt_x).trans c1_x; have d2_0_y := (bb2.cell (p := ⟨(w.heap.size + 1), 0, none⟩) lt_y).trans c0_y; have d2_1_y := (bb2.cell (p := ⟨(w.heap.size + 1), 1, none⟩) lt_y).trans c1_y; have d2_0_r := (bb2.cell (p := ⟨(w.heap.size + 1 + 1), 0, none⟩) lt_r).trans c0_r; have d2_1_r := (bb2.cell (p := ⟨(w.heap.size + 1 + 1), 1, none⟩) lt_r).trans c1_r; have e2_0_r := (bb2.frozen (p := ⟨(w.heap.size + 1 + 1), 0, none⟩) lt_r).trans f0_r; have e2_1_r := (bb2.frozen (p := ⟨(w.heap.size + 1 + 1), 1, none⟩) lt_r).trans f1_r))
      clear bw2
      have bw2 := bb2
      replace D_x := Lib.hid (D_x.out.below bw2)
      replace D_y := Lib.hid (D_y.out.below bw2)
      replace D_r := Lib.hid (D_r.out.below bw2)
      have Z2 := Lib.hid bw2.size
      replace B := Lib.hid (B.out.trans (bw2.mono B.out.size))
      clear bw2
      replace D_x := Lib.hid (D_x.out.below bw3)
      replace D_y := Lib.hid (D_y.out.below bw3)
      replace D_r := Lib.hid (D_r.out.below bw3)
      have Z3 := Lib.hid bw3.size
      replace B := Lib.hid (B.out.trans (bw3.mono B.out.size))
      have O_r0 := Lib.hid o_r0
      clear o_r0
      clear bw3
      clear bb2 bb3
      clear c0_x c1_x
      clear c0_y c1_y
      clear lt_x
      clear lt_y
      clear lt_r
      clear c0_r c1_r f0_r f1_r
      have c0_r := D_r.out.c0
      have c1_r := D_r.out.c1
      have f0_r := D_r.out.f0
      have f1_r := D_r.out.f1
      go_wp2
      obtain ⟨e1, e2⟩ := big_end (p := (w.heap.size + 1 + 1)) B.out O_r0.out (by have := SZ.out; have := Z1.out; have := Z2.out; have := Z3.out; omega) (by have := SZ.out; have := Z1.out; have := Z2.out; have := Z3.out; omega) (by omega) (.bool (sgB b1 (capL (y - x)))) (.slice a_r0 (capL (y - x)).length c_r0)
      exact bodyPost_ret (v := .agg #[.bool (sgB b1 (capL (y - x))), .slice a_r0 (capL (y - x)).length c_r0]) (by simp [results, Try.results48, go_sem, c0_r, c1_r]) rfl ⟨_, rfl, e1, e2⟩

set_option maxHeartbeats 1000000 in
theorem impl_plusBig (b0 : Bool) (va : Value) (x : Nat) (b1 : Bool) (vb : Value) (y : Nat) (w : World) (ha : RowOf iV w va (limI x)) (hb : RowOf iV w vb (limI y)) (hx : nlen x ≤ 400) (hy : nlen y ≤ 400) :
    Calls Try.prog 49 #[.agg #[.bool b0, va], .bool b1, vb] w fun e w' => ∃ v, e = .returned (.agg #[.bool (sgB (sgAddB b0 x b1 y) (capL (sgAddN b0 x b1 y))), v]) ∧ OwnI w' w.heap.size v (capL (sgAddN b0 x b1 y)) ∧ Below w.heap.size w w' := by
  have RA := Lib.hid ha
  have RB := Lib.hid hb
  obtain ⟨aa, ca, rfl, h1, h2, h3⟩ := ha
  obtain ⟨ab, cb, rfl, h4, h5, h6⟩ := hb
  clear h1 h2 h3 h4 h5 h6
  rw [limI_length] at RA ⊢
  rw [limI_length] at RB ⊢
  obtain ⟨nx, hnx⟩ : ∃ n, nlen x = n := ⟨_, rfl⟩
  obtain ⟨ny, hny⟩ : ∃ n, nlen y = n := ⟨_, rfl⟩
  have HX := Lib.hid hx
  have HY := Lib.hid hy
  rw [hnx] at RA ⊢
  rw [hny] at RB ⊢
  clear hnx hny hx hy
  by_cases hb : b0 = b1
  · subst hb
    have HE := Lib.hid (sgAdd_same b0 x y)
    have hbb : (b0 == b0) = true := by simp
    rw [HE.out.1, HE.out.2]
    go_enter Try.func49, Try.ntmps49
    go_wp2_with fail
    obtain ⟨W0, hW0⟩ : ∃ x, x = ((w.alloc (.cells #[.bool b0, .slice aa nx ca] 27)).alloc (.cells #[.bool false, .slice none 0 0] 27)) := ⟨_, rfl⟩
    have B := Lib.hid (show Below w.heap.size w W0 by rw [hW0]; exact (((Below.refl _ _).alloc (Nat.le_refl _) _).alloc (by simp) _))
    have D_x := Lib.hid (bx_at (show Bx W0 _ 27 b0 (.slice aa nx ca) by rw [hW0]; exact (Bx.new _ _ _ _).alloc _) (show w.heap.size = _ by simp))
    have D_r := Lib.hid (bx_at (show Bx W0 _ 27 false (.slice none 0 0) by rw [hW0]; exact Bx.new _ _ _ _) (show (w.heap.size + 1) = _ by simp))
    have SZ := Lib.hid (show W0.heap.size = w.heap.size + 1 + 1 by rw [hW0]; simp)
    rw [← hW0]
    clear hW0
    refine (impl_plus _ _ x y _ (rowOf_below RA.out B.out) (rowOf_below RB.out B.out) (by have := HX.out; have := HY.out; omega) (by have := HX.out; have := HY.out; omega)).mono ?_
    rintro e w1 ⟨v_q, rfl, o_q, b1'⟩
    have HQ := Lib.hid o_q.row
    clear o_q
    replace D_x := Lib.hid (D_x.out.below b1')
    replace D_r := Lib.hid (D_r.out.below b1')
    have Z1 := Lib.hid b1'.size
    replace B := Lib.hid (B.out.trans (b1'.mono B.out.size))
    clear b1'
    go_wp2_with fail
    refine (impl_withSign b0 _ (x + y) _ HQ.out).mono ?_
    rintro e w2 ⟨v_r0, rfl, o_r0, bw2⟩
    obtain ⟨a_r0, c_r0, rfl⟩ := o_r0.slice
    replace D_x := Lib.hid (D_x.out.below bw2)
    replace D_r := Lib.hid (D_r.out.below bw2)
    have Z2 := Lib.hid bw2.size
    replace B := Lib.hid (B.out.trans (bw2.mono B.out.size))
    have O_r0 := Lib.hid o_r0
    clear o_r0
    clear bw2
    have c0_r := D_r.out.c0
    have c1_r := D_r.out.c1
    have f0_r := D_r.out.f0
    have f1_r := D_r.out.f1
    go_wp2
    obtain ⟨e1, e2⟩ := big_end (p := (w.heap.size + 1)) B.out O_r0.out (by have := SZ.out; have := Z1.out; have := Z2.out; omega) (by have := SZ.out; have := Z1.out; have := Z2.out; omega) (by omega) (.bool (sgB b0 (capL (x + y)))) (.slice a_r0 (capL (x + y)).length c_r0)
    exact bodyPost_ret (v := .agg #[.bool (sgB b0 (capL (x + y))), .slice a_r0 (capL (x + y)).length c_r0]) (by simp [results, Try.results49, go_sem, c0_r, c1_r]) rfl ⟨_, rfl, e1, e2⟩
  · have hbb : (b0 == b1) = false := by simpa using hb
    by_cases hxy : y ≤ x
    rotate_left
    · have HE := Lib.hid (sgAdd_right hb hxy)
      have hc : 0 < cmpN y x := cmp_gtr.2 (by omega)
      have HXY := Lib.hid hxy
      clear hb hxy
      obtain ⟨cm, hcm⟩ : ∃ c, cmpN y x = c := ⟨_, rfl⟩
      rw [hcm] at hc
      rw [HE.out.1, HE.out.2]
      have HCM := Lib.hid hcm
      clear hcm
      go_enter Try.func49, Try.ntmps49
      go_wp2_with fail
      obtain ⟨W0, hW0⟩ : ∃ x, x = ((w.alloc (.cells #[.bool b0, .slice aa nx ca] 27)).alloc (.cells #[.bool false, .slice none 0 0] 27)) := ⟨_, rfl⟩
      have B := Lib.hid (show Below w.heap.size w W0 by rw [hW0]; exact (((Below.refl _ _).alloc (Nat.le_refl _) _).alloc (by simp) _))
      have D_x := Lib.hid (bx_at (show Bx W0 _ 27 b0 (.slice aa nx ca) by rw [hW0]; exact (Bx.new _ _ _ _).alloc _) (show w.heap.size = _ by simp))
      have D_r := Lib.hid (bx_at (show Bx W0 _ 27 false (.slice none 0 0) by rw [hW0]; exact Bx.new _ _ _ _) (show (w.heap.size + 1) = _ by simp))
      have SZ := Lib.hid (show W0.heap.size = w.heap.size + 1 + 1 by rw [hW0]; simp)
      rw [← hW0]
      clear hW0
      refine (impl_compare _ _ y x _ (rowOf_below RB.out B.out) (rowOf_below RA.out B.out) (by have := HX.out; have := HY.out; omega) (by have := HX.out; have := HY.out; omega)).mono ?_
      rw [HCM.out]
      rintro e w1 ⟨rfl, b1'⟩
      replace D_x := Lib.hid (D_x.out.below b1')
      replace D_r := Lib.hid (D_r.out.below b1')
      have Z1 := Lib.hid b1'.size
      replace B := Lib.hid (B.out.trans (b1'.mono B.out.size))
      clear b1'
      have c0_x := D_x.out.c0
      have c1_x := D_x.out.c1
      go_wp2_with fail
      clear c0_x c1_x
      refine (impl_minus _ _ y x _ (rowOf_below RB.out B.out) (rowOf_below RA.out B.out) (by have := HXY.out; omega) (by have := HX.out; have := HY.out; omega) (by have := HX.out; have := HY.out; omega)).mono ?_
      rintro e w2 ⟨v_q, rfl, o_q, b2'⟩
      have HQ := Lib.hid o_q.row
      clear o_q
      replace D_x := Lib.hid (D_x.out.below b2')
      replace D_r := Lib.hid (D_r.out.below b2')
      have Z2 := Lib.hid b2'.size
      replace B := Lib.hid (B.out.trans (b2'.mono B.out.size))
      clear b2'
      go_wp2_with fail
      refine (impl_withSign b1 _ (y - x) _ HQ.out).mono ?_
      rintro e w3 ⟨v_r0, rfl, o_r0, bw3⟩
      obtain ⟨a_r0, c_r0, rfl⟩ := o_r0.slice
      replace D_x := Lib.hid (D_x.out.below bw3)
      replace D_r := Lib.hid (D_r.out.below bw3)
      have Z3 := Lib.hid bw3.size
      replace B := Lib.hid (B.out.trans (bw3.mono B.out.size))
      have O_r0 := Lib.hid o_r0
      clear o_r0
      clear bw3
      have c0_r := D_r.out.c0
      have c1_r := D_r.out.c1
      have f0_r := D_r.out.f0
      have f1_r := D_r.out.f1
      go_wp2
      obtain ⟨e1, e2⟩ := big_end (p := (w.heap.size + 1)) B.out O_r0.out (by have := SZ.out; have := Z1.out; have := Z2.out; have := Z3.out; omega) (by have := SZ.out; have := Z1.out; have := Z2.out; have := Z3.out; omega) (by omega) (.bool (sgB b1 (capL (y - x)))) (.slice a_r0 (capL (y - x)).length c_r0)
      exact bodyPost_ret (v := .agg #[.bool (sgB b1 (capL (y - x))), .slice a_r0 (capL (y - x)).length c_r0]) (by simp [results, Try.results49, go_sem, c0_r, c1_r]) rfl ⟨_, rfl, e1, e2⟩
    · have HE := Lib.hid (sgAdd_left hb hxy)
      have hc : ¬ 0 < cmpN y x := fun h => (by have := cmp_gtr.1 h; omega)
      have HXY := Lib.hid hxy
      clear hb hxy
      obtain ⟨cm, hcm⟩ : ∃ c, cmpN y x = c := ⟨_, rfl⟩
      rw [hcm] at hc
      rw [HE.out.1, HE.out.2]
      have HCM := Lib.hid hcm
      clear hcm
      go_enter Try.func49, Try.ntmps49
      go_wp2_with fail
      obtain ⟨W0, hW0⟩ : ∃ x, x = ((w.alloc (.cells #[.bool b0, .slice aa nx ca] 27)).alloc (.cells #[.bool false, .slice none 0 0] 27)) := ⟨_, rfl⟩
      have B := Lib.hid (show Below w.heap.size w W0 by rw [hW0]; exact (((Below.refl _ _).alloc (Nat.le_refl _) _).alloc (by simp) _))
      have D_x := Lib.hid (bx_at (show Bx W0 _ 27 b0 (.slice aa nx ca) by rw [hW0]; exact (Bx.new _ _ _ _).alloc _) (show w.heap.size = _ by simp))
      have D_r := Lib.hid (bx_at (show Bx W0 _ 27 false (.slice none 0 0) by rw [hW0]; exact Bx.new _ _ _ _) (show (w.heap.size + 1) = _ by simp))
      have SZ := Lib.hid (show W0.heap.size = w.heap.size + 1 + 1 by rw [hW0]; simp)
      rw [← hW0]
      clear hW0
      refine (impl_compare _ _ y x _ (rowOf_below RB.out B.out) (rowOf_below RA.out B.out) (by have := HX.out; have := HY.out; omega) (by have := HX.out; have := HY.out; omega)).mono ?_
      rw [HCM.out]
      rintro e w1 ⟨rfl, b1'⟩
      replace D_x := Lib.hid (D_x.out.below b1')
      replace D_r := Lib.hid (D_r.out.below b1')
      have Z1 := Lib.hid b1'.size
      replace B := Lib.hid (B.out.trans (b1'.mono B.out.size))
      clear b1'
      have c0_x := D_x.out.c0
      have c1_x := D_x.out.c1
      go_wp2_with fail
      have c0_r := D_r.out.c0
      have c1_r := D_r.out.c1
      have f0_r := D_r.out.f0
      have f1_r := D_r.out.f1
      have lt_x := D_x.out.lt
      have lt_r := D_r.out.lt
      go_region_held3 (fun w' => w'.cell? ⟨w.heap.size, 0, none⟩ = some (.bool b0) ∧ w'.cell? ⟨w.heap.size, 1, none⟩ = some ((.slice aa nx ca))) (first | exact ⟨d3_0_x, d3_1_x⟩ | exact ⟨d2_0_x, d2_1_x⟩ | exact ⟨(cell_far (by omega) _ _).trans d3_0_x, (cell_far (by omega) _ _).trans d3_1_x⟩ | exact ⟨c0_x, c1_x⟩)
        (first
          | (have := bb2; go_at_call 44; refine (impl_withSign b0 _ (x - y) _ o_q.row).mono ?_; rintro e w3 ⟨v_r0, rfl, o_r0, bw3⟩; obtain ⟨a_r0, c_r0, rfl⟩ := o_r0.slice; have bb3 : Below w1.heap.size w1 w3 := bb2.trans (bw3.mono bb2.size); have d3_0_x := (bb3.cell (p := ⟨w.heap.size, 0, none⟩) lt_x).trans c0_x; have d3_1_x := (bb3.cell (p := ⟨w.heap.size, 1, none⟩) lt_x).trans c1_x; have d3_0_r := (bb3.cell (p := ⟨(w.heap.size + 1), 0, none⟩) lt_r).trans c0_r; have d3_1_r := (bb3.cell (p := ⟨(w.heap.size + 1), 1, none⟩) lt_r).trans c1_r; have e3_0_r := (bb3.frozen (p := ⟨(w.heap.size + 1), 0, none⟩) lt_r).trans f0_r; have e3_1_r := (bb3.frozen (p := ⟨(w.heap.size + 1), 1, none⟩) lt_r).trans f1_r)
          | (go_at_call 59; refine (impl_minus _ _ x y _ (rowOf_below RA.out (B.out.trans (Below.mono (by first | exact Below.refl _ _ | exact (Below.refl _ _).drew) B.out.size))) (rowOf_below RB.out (B.out.trans (Below.mono (by first | exact Below.refl _ _ | exact (Below.refl _ _).drew) B.out.size))) (by have := HXY.out; omega) (by have := HX.out; have := HY.out; omega) (by have := HX.out; have := HY.out; omega)).mono ?_; rintro e w2 ⟨v_q, rfl, o_q, bw2⟩; have bb2 : Below w1.heap.size w1 w2 := (by first | exact bw2 | exact ((Below.refl _ _).drew).trans bw2); have d2_0_x := (bb2.cell (p := ⟨w.heap.size, 0, none⟩) lt_x).trans c0_x; have d2_1_x := (bb2.cell (p := ⟨w.heap.size, 1, none⟩) lt_x).trans c1_x; have d2_0_r := (bb2.cell (p := ⟨(w.heap.size + 1), 0, none⟩) lt_r).trans c0_r; have d2_1_r := (bb2.cell (p := ⟨(w.heap.size + 1), 1, none⟩) lt_r).trans c1_r; have e2_0_r := (bb2.frozen (p := ⟨(w.heap.size + 1), 0, none⟩) lt_r).trans f0_r; have e2_1_r := (bb2.frozen (p := ⟨(w.heap.size + 1), 1, none⟩) lt_r).trans f1_r))
      clear bw2
      have bw2 := bb2
      replace D_x := Lib.hid (D_x.out.below bw2)
      replace D_r := Lib.hid (D_r.out.below bw2)
      have Z2 := Lib.hid bw2.size
      replace B := Lib.hid (B.out.trans (bw2.mono B.out.size))
      clear bw2
      replace D_x := Lib.hid (D_x.out.below bw3)
      replace D_r := Lib.hid (D_r.out.below bw3)
      have Z3 := Lib.hid bw3.size
      replace B := Lib.hid (B.out.trans (bw3.mono B.out.size))
      have O_r0 := Lib.hid o_r0
      clear o_r0
      clear bw3
      clear bb2 bb3
      clear c0_x c1_x
      clear lt_x
      clear lt_r
      clear c0_r c1_r f0_r f1_r
      have c0_r := D_r.out.c0
      have c1_r := D_r.out.c1
      have f0_r := D_r.out.f0
      have f1_r := D_r.out.f1
      go_wp2
      obtain ⟨e1, e2⟩ := big_end (p := (w.heap.size + 1)) B.out O_r0.out (by have := SZ.out; have := Z1.out; have := Z2.out; have := Z3.out; omega) (by have := SZ.out; have := Z1.out; have := Z2.out; have := Z3.out; omega) (by omega) (.bool (sgB b0 (capL (x - y)))) (.slice a_r0 (capL (x - y)).length c_r0)
      exact bodyPost_ret (v := .agg #[.bool (sgB b0 (capL (x - y))), .slice a_r0 (capL (x - y)).length c_r0]) (by simp [results, Try.results49, go_sem, c0_r, c1_r]) rfl ⟨_, rfl, e1, e2⟩

end Go.Proofs.Ytofmpfcbdemcnaa
