/- Sums, products and comparisons in the model, on valid fractions. -/
import Derived.Test.YtlepgkkpopjgoaaGreatZSpecLow
namespace Go.Proofs.YtlepgkkpopjgoaaGreat
open Go.RowKit Go.WideShapes Go.ChangeShapes
set_option linter.unusedVariables false
set_option linter.unusedSimpArgs false

/-- the sign of a number that is 0 does not matter -/
theorem sgAdd_norm {b0 b1 : Bool} {m n : Nat} : (sgAddB (b0 && decide (0 < m)) m (b1 && decide (0 < n)) n && decide (0 < sgAddN (b0 && decide (0 < m)) m (b1 && decide (0 < n)) n)) = (sgAddB b0 m b1 n && decide (0 < sgAddN b0 m b1 n)) ∧ sgAddN (b0 && decide (0 < m)) m (b1 && decide (0 < n)) n = sgAddN b0 m b1 n := by
  rcases Nat.eq_zero_or_pos m with rfl | hm
  · rcases Nat.eq_zero_or_pos n with rfl | hn
    · unfold sgAddB sgAddN; cases b0 <;> cases b1 <;> simp
    · have : decide (0 < n) = true := decide_eq_true hn
      unfold sgAddB sgAddN; rw [this]; cases b0 <;> cases b1 <;> simp <;> (repeat (split <;> simp_all <;> try omega)) <;> (try (intros; omega))
  · have h1 : decide (0 < m) = true := decide_eq_true hm
    rcases Nat.eq_zero_or_pos n with rfl | hn
    · unfold sgAddB sgAddN; rw [h1]; cases b0 <;> cases b1 <;> simp
    · have h2 : decide (0 < n) = true := decide_eq_true hn
      rw [h1, h2, Bool.and_true, Bool.and_true]; exact ⟨rfl, rfl⟩
theorem mkB_sg {s : Bool} {N M D : Nat} (hM : 0 < M) : mkB (s && decide (0 < N)) (lowX N M) D = mkB s (lowX N M) D := by
  unfold mkB
  have h : (0 < lowX N M) ↔ 0 < N := (div_pos_iff (Nat.gcd_dvd_left N M) (gcd_pos' hM)).symm
  congr 1
  by_cases h0 : 0 < N
  · rw [decide_eq_true h0, decide_eq_true (h.2 h0)]; simp
  · rw [decide_eq_false h0, decide_eq_false (fun h9 => h0 (h.1 h9))]; simp
theorem mkB_sgA {s : Bool} {N M : Nat} : mkB (s && decide (0 < N)) (lowX N M) (lowD N M) = mkB s (lowX N M) (lowD N M) := by
  rcases Nat.eq_zero_or_pos M with rfl | hM
  · have hk : okS (lowX N 0) (lowD N 0) = false := by unfold lowD; rw [Nat.zero_div]; exact okS_zero _
    rw [(mk_no hk _).1, (mk_no hk _).1]
  · exact mkB_sg hM

set_option maxHeartbeats 4000000 in
theorem spec_addA (b0 : Bool) (v0 : Value) (x : Nat) (d0 : Value) (d : Nat) (b1 : Bool) (v1 : Value) (y : Nat) (d1 : Value) (e : Nat) (w : World) (h0 : RowR w v0 (limI x) d0 (limI d)) (h1 : RowR w v1 (limI y) d1 (limI e))
    (hx : x < pw 24) (hd : d < pw 24) (hy : y < pw 24) (he : e < pw 24) :
    Calls Tryz.prog 178 #[.agg #[.bool b0, v0, d0], .agg #[.bool b1, v1, d1]] w fun r w' => ∃ v dd, r = .returned (.agg #[.bool (mkB (sgAddB b0 (x * e) b1 (y * d)) (lowX (sgAddN b0 (x * e) b1 (y * d)) (d * e)) (lowD (sgAddN b0 (x * e) b1 (y * d)) (d * e))), v, dd]) ∧ OwnR w' w.heap.size v (mkZ (lowX (sgAddN b0 (x * e) b1 (y * d)) (d * e)) (lowD (sgAddN b0 (x * e) b1 (y * d)) (d * e))) dd (mkD (lowX (sgAddN b0 (x * e) b1 (y * d)) (d * e)) (lowD (sgAddN b0 (x * e) b1 (y * d)) (d * e))) ∧ Below w.heap.size w w' := by
  have PN := Lib.hid (show sgAddN b0 (x * e) b1 (y * d) < pw 60 from Nat.lt_trans (Nat.lt_of_le_of_lt (sgAddN_le _ _ _ _) (add48 (mul24 hx he) (mul24 hy hd))) (pw_lt (by omega)))
  have P1 := Lib.hid (Nat.lt_trans (mul24 hx he) (pw_lt (by omega : 48 < 60)))
  have P2 := Lib.hid (Nat.lt_trans (mul24 hy hd) (pw_lt (by omega : 48 < 60)))
  have P3 := Lib.hid (Nat.lt_trans (mul24 hd he) (pw_lt (by omega : 48 < 60)))
  have L1 := Lib.hid ((nlen_le_iff _ _).2 P1.out)
  have L2 := Lib.hid ((nlen_le_iff _ _).2 P2.out)
  have ESG := Lib.hid (mkB_sgA (s := sgAddB b0 (x * e) b1 (y * d)) (N := sgAddN b0 (x * e) b1 (y * d)) (M := d * e))
  have B_x := Lib.hid ((nlen_le_iff _ _).2 hx)
  have B_d := Lib.hid ((nlen_le_iff _ _).2 hd)
  have B_y := Lib.hid ((nlen_le_iff _ _).2 hy)
  have B_e := Lib.hid ((nlen_le_iff _ _).2 he)
  by_cases h11 : d = 1 ∧ e = 1
  rotate_left
  · have HD1 := Lib.hid (show (decide (d = 1) && decide (e = 1)) = false by by_cases q : d = 1 <;> by_cases q' : e = 1 <;> simp_all)
    clear hx hd hy he h11
    have RA_x := Lib.hid h0.1
    have RA_d := Lib.hid h0.2
    obtain ⟨⟨a0, c0, rfl, z1, z2, z3⟩, ⟨e0, f0, rfl, z4, z5, z6⟩⟩ := h0
    clear z1 z2 z3 z4 z5 z6
    have RA_y := Lib.hid h1.1
    have RA_e := Lib.hid h1.2
    obtain ⟨⟨a1, c1, rfl, z1, z2, z3⟩, ⟨e1, f1, rfl, z4, z5, z6⟩⟩ := h1
    clear z1 z2 z3 z4 z5 z6
    have L_x := Lib.hid (limI_length x)
    rw [limI_length] at RA_x
    try rw [limI_length x]
    obtain ⟨nx, hnx⟩ : ∃ n, nlen x = n := ⟨_, rfl⟩
    rw [hnx] at RA_x L_x
    try rw [hnx]
    have N_x := Lib.hid hnx
    clear hnx
    have L_d := Lib.hid (limI_length d)
    rw [limI_length] at RA_d
    try rw [limI_length d]
    obtain ⟨nd, hnd⟩ : ∃ n, nlen d = n := ⟨_, rfl⟩
    rw [hnd] at RA_d L_d
    try rw [hnd]
    have N_d := Lib.hid hnd
    clear hnd
    have L_y := Lib.hid (limI_length y)
    rw [limI_length] at RA_y
    try rw [limI_length y]
    obtain ⟨ny, hny⟩ : ∃ n, nlen y = n := ⟨_, rfl⟩
    rw [hny] at RA_y L_y
    try rw [hny]
    have N_y := Lib.hid hny
    clear hny
    have L_e := Lib.hid (limI_length e)
    rw [limI_length] at RA_e
    try rw [limI_length e]
    obtain ⟨ne, hne⟩ : ∃ n, nlen e = n := ⟨_, rfl⟩
    rw [hne] at RA_e L_e
    try rw [hne]
    have N_e := Lib.hid hne
    clear hne
    rw [← ESG.out]
    obtain ⟨SS, hSS⟩ : ∃ s, (sgAddB b0 (x * e) b1 (y * d)) = s := ⟨_, rfl⟩
    obtain ⟨XX, hXX⟩ : ∃ s, (lowX (sgAddN b0 (x * e) b1 (y * d)) (d * e)) = s := ⟨_, rfl⟩
    obtain ⟨DD, hDD⟩ : ∃ s, (lowD (sgAddN b0 (x * e) b1 (y * d)) (d * e)) = s := ⟨_, rfl⟩
    rw [hSS, hXX, hDD]
    have HE := Lib.hid (And.intro hSS (And.intro hXX hDD))
    clear hSS hXX hDD
    obtain ⟨NN, hNN⟩ : ∃ s, (sgAddN b0 (x * e) b1 (y * d)) = s := ⟨_, rfl⟩
    have HNN := Lib.hid hNN
    rw [hNN] at PN HE ⊢
    clear hNN ESG
    cases hd1 : decide (d = 1) with
    | false =>
      have Q1 := Lib.hid hd1
      clear hd1 HD1
      go_enter Tryz.func178, Tryz.ntmps178
      go_wp2_with fail
      obtain ⟨W0, hW0⟩ : ∃ x, x = (((w.alloc (.cells #[.bool b0, .slice a0 nx c0, .slice e0 nd f0] 34)).alloc (.cells #[.bool b1, .slice a1 ny c1, .slice e1 ne f1] 34)).alloc (.cells #[.bool false, .slice none 0 0, .slice none 0 0] 34)) := ⟨_, rfl⟩
      have B := Lib.hid (show Below w.heap.size w W0 by rw [hW0]; exact ((((Below.refl _ _).alloc (Nat.le_refl _) _).alloc (by simp) _).alloc (by simp; omega) _))
      have D_x := Lib.hid (rx_at (show Rx W0 _ 34 (b0) (.slice a0 nx c0) (.slice e0 nd f0) by rw [hW0]; exact ((Rx.new _ _ _ _ _).alloc _).alloc _) (show w.heap.size = _ by simp))
      have D_y := Lib.hid (rx_at (show Rx W0 _ 34 (b1) (.slice a1 ny c1) (.slice e1 ne f1) by rw [hW0]; exact (Rx.new _ _ _ _ _).alloc _) (show (w.heap.size + 1) = _ by simp))
      have D_r := Lib.hid (rx_at (show Rx W0 _ 34 (false) (.slice none 0 0) (.slice none 0 0) by rw [hW0]; exact Rx.new _ _ _ _ _) (show (w.heap.size + 1 + 1) = _ by simp))
      have SZ := Lib.hid (show W0.heap.size = w.heap.size + 1 + 1 + 1 by rw [hW0]; simp)
      rw [← hW0]
      clear hW0
      have BB := Lib.hid (Below.refl W0.heap.size W0)
      refine (spec_isOne _ d _ (rowOf_below RA_d.out B.out)).mono ?_
      rw [Q1.out]
      rintro r9 w9 ⟨rfl, h9⟩
      replace h9 := h9.symm
      subst h9
      have K_t := Lib.hid (fun (W : World) (hW : Below W0.heap.size W0 W) => pre_own (R := fun v => v) (spec_mulAny _ _ x e W (rowOf_below (rowOf_below RA_x.out B.out) hW) (rowOf_below (rowOf_below RA_e.out B.out) hW) (by have := B_x.out; omega) (by have := B_e.out; omega)) hW)
      have K_k := Lib.hid (fun (W : World) (hW : Below W0.heap.size W0 W) (vv : Value) (hr : RowOf iV W vv (limI (x * e))) => pre_own (R := fun v => .agg #[.bool (b0 && decide (0 < x * e)), v]) (spec_makeN b0 vv (x * e) W hr P1.out) hW)
      have c0_x := (D_x.out.below BB.out).c0
      have c1_x := (D_x.out.below BB.out).c1
      have c2_x := (D_x.out.below BB.out).c2
      have c0_y := (D_y.out.below BB.out).c0
      have c1_y := (D_y.out.below BB.out).c1
      have c2_y := (D_y.out.below BB.out).c2
      go_upto_region 4 with fail
      have HS := Lib.hid (show ∀ W : World, Below W0.heap.size W0 W → (W.cell? ⟨w.heap.size, 0, none⟩ = some (.bool b0) ∧ W.cell? ⟨w.heap.size, 1, none⟩ = some (.slice a0 nx c0) ∧ W.cell? ⟨w.heap.size, 2, none⟩ = some (.slice e0 nd f0) ∧ W.cell? ⟨(w.heap.size + 1), 0, none⟩ = some (.bool b1) ∧ W.cell? ⟨(w.heap.size + 1), 1, none⟩ = some (.slice a1 ny c1) ∧ W.cell? ⟨(w.heap.size + 1), 2, none⟩ = some (.slice e1 ne f1)) from fun W hW => ⟨(hW.cell (p := ⟨w.heap.size, 0, none⟩) (D_x.out.below BB.out).lt).trans c0_x, (hW.cell (p := ⟨w.heap.size, 1, none⟩) (D_x.out.below BB.out).lt).trans c1_x, (hW.cell (p := ⟨w.heap.size, 2, none⟩) (D_x.out.below BB.out).lt).trans c2_x, (hW.cell (p := ⟨(w.heap.size + 1), 0, none⟩) (D_y.out.below BB.out).lt).trans c0_y, (hW.cell (p := ⟨(w.heap.size + 1), 1, none⟩) (D_y.out.below BB.out).lt).trans c1_y, (hW.cell (p := ⟨(w.heap.size + 1), 2, none⟩) (D_y.out.below BB.out).lt).trans c2_y⟩)
      have lt_x := (D_x.out.below BB.out).lt
      have lt_y := (D_y.out.below BB.out).lt
      go_cut [6] from 28 (fun q0 wc => ∃ (p : Nat) (a_n : Option Addr) (n_n c_n : Nat), q0 = .pointer (some ⟨p, 0, none⟩) ∧ Hid (Bx wc p 32 (b0 && decide (0 < x * e)) (.slice a_n n_n c_n)) ∧ Hid (OwnI wc W0.heap.size (.slice a_n n_n c_n) (limI (x * e))) ∧ Hid (W0.heap.size ≤ p) ∧ Hid (Below W0.heap.size W0 wc))
      case first =>
        go_region_held3 (fun w' => w'.cell? ⟨w.heap.size, 0, none⟩ = some (.bool b0) ∧ w'.cell? ⟨w.heap.size, 1, none⟩ = some (.slice a0 nx c0) ∧ w'.cell? ⟨w.heap.size, 2, none⟩ = some (.slice e0 nd f0) ∧ w'.cell? ⟨(w.heap.size + 1), 0, none⟩ = some (.bool b1) ∧ w'.cell? ⟨(w.heap.size + 1), 1, none⟩ = some (.slice a1 ny c1) ∧ w'.cell? ⟨(w.heap.size + 1), 2, none⟩ = some (.slice e1 ne f1)) (first | exact HS.out _ (by first | with_reducible exact Below.refl _ _ | with_reducible exact (Below.refl _ _).drew | with_reducible exact bb_t | with_reducible exact bb_k | with_reducible exact (Below.refl _ _).alloc (Nat.le_refl _) _ | with_reducible exact ((Below.refl _ _).alloc (Nat.le_refl _) _).drew | with_reducible exact bb_t.alloc bb_t.size _ | with_reducible exact bb_k.alloc bb_k.size _ | fail) | exact ⟨(cell_far (show w.heap.size ≠ _ from fun e => absurd pz (by omega)) _ _).trans ((HS.out _ (by first | with_reducible exact Below.refl _ _ | with_reducible exact (Below.refl _ _).drew | with_reducible exact bb_t | with_reducible exact bb_k | with_reducible exact (Below.refl _ _).alloc (Nat.le_refl _) _ | with_reducible exact ((Below.refl _ _).alloc (Nat.le_refl _) _).drew | with_reducible exact bb_t.alloc bb_t.size _ | with_reducible exact bb_k.alloc bb_k.size _ | fail)).1), (cell_far (show w.heap.size ≠ _ from fun e => absurd pz (by omega)) _ _).trans ((HS.out _ (by first | with_reducible exact Below.refl _ _ | with_reducible exact (Below.refl _ _).drew | with_reducible exact bb_t | with_reducible exact bb_k | with_reducible exact (Below.refl _ _).alloc (Nat.le_refl _) _ | with_reducible exact ((Below.refl _ _).alloc (Nat.le_refl _) _).drew | with_reducible exact bb_t.alloc bb_t.size _ | with_reducible exact bb_k.alloc bb_k.size _ | fail)).2.1), (cell_far (show w.heap.size ≠ _ from fun e => absurd pz (by omega)) _ _).trans ((HS.out _ (by first | with_reducible exact Below.refl _ _ | with_reducible exact (Below.refl _ _).drew | with_reducible exact bb_t | with_reducible exact bb_k | with_reducible exact (Below.refl _ _).alloc (Nat.le_refl _) _ | with_reducible exact ((Below.refl _ _).alloc (Nat.le_refl _) _).drew | with_reducible exact bb_t.alloc bb_t.size _ | with_reducible exact bb_k.alloc bb_k.size _ | fail)).2.2.1), (cell_far (show (w.heap.size + 1) ≠ _ from fun e => absurd pz (by omega)) _ _).trans ((HS.out _ (by first | with_reducible exact Below.refl _ _ | with_reducible exact (Below.refl _ _).drew | with_reducible exact bb_t | with_reducible exact bb_k | with_reducible exact (Below.refl _ _).alloc (Nat.le_refl _) _ | with_reducible exact ((Below.refl _ _).alloc (Nat.le_refl _) _).drew | with_reducible exact bb_t.alloc bb_t.size _ | with_reducible exact bb_k.alloc bb_k.size _ | fail)).2.2.2.1), (cell_far (show (w.heap.size + 1) ≠ _ from fun e => absurd pz (by omega)) _ _).trans ((HS.out _ (by first | with_reducible exact Below.refl _ _ | with_reducible exact (Below.refl _ _).drew | with_reducible exact bb_t | with_reducible exact bb_k | with_reducible exact (Below.refl _ _).alloc (Nat.le_refl _) _ | with_reducible exact ((Below.refl _ _).alloc (Nat.le_refl _) _).drew | with_reducible exact bb_t.alloc bb_t.size _ | with_reducible exact bb_k.alloc bb_k.size _ | fail)).2.2.2.2.1), (cell_far (show (w.heap.size + 1) ≠ _ from fun e => absurd pz (by omega)) _ _).trans ((HS.out _ (by first | with_reducible exact Below.refl _ _ | with_reducible exact (Below.refl _ _).drew | with_reducible exact bb_t | with_reducible exact bb_k | with_reducible exact (Below.refl _ _).alloc (Nat.le_refl _) _ | with_reducible exact ((Below.refl _ _).alloc (Nat.le_refl _) _).drew | with_reducible exact bb_t.alloc bb_t.size _ | with_reducible exact bb_k.alloc bb_k.size _ | fail)).2.2.2.2.2)⟩)
          (first
            | (go_at_call 135; refine (K_k.out _ (by first | with_reducible exact Below.refl _ _ | with_reducible exact (Below.refl _ _).drew | with_reducible exact bb_t | with_reducible exact bb_k | with_reducible exact (Below.refl _ _).alloc (Nat.le_refl _) _ | with_reducible exact ((Below.refl _ _).alloc (Nat.le_refl _) _).drew | with_reducible exact bb_t.alloc bb_t.size _ | with_reducible exact bb_k.alloc bb_k.size _ | fail) _ (by first | with_reducible exact o_t.row | with_reducible exact (o_t.alloc _).row)).mono ?_; rintro e w_k ⟨v_k, rfl, o_k, lo_k, bw_k, bb_k⟩; obtain ⟨a_k, c_k, rfl⟩ := o_k.slice; (try first | with_reducible (have o_t := o_t.below bw_k) | with_reducible (have o_t := (o_t.alloc _).below bw_k)); (try with_reducible (have dz := Bx.below dz bw_k; have pz := pz)); (try first | with_reducible (have dz := (show Bx w_k W0.heap.size 32 (false) (.slice none 0 0) from Bx.below (show Bx (World.drew (W0.alloc (.cells #[.bool false, .slice none 0 0] 32))) W0.heap.size 32 (false) (.slice none 0 0) from Bx.drew (Bx.new _ _ _ _)) bw_k); have pz : W0.heap.size ≤ W0.heap.size := Nat.le_refl _) | with_reducible (have dz := (show Bx w_k w_t.heap.size 32 (false) (.slice none 0 0) from Bx.below (Bx.new _ _ _ _) bw_k); have pz : W0.heap.size ≤ w_t.heap.size := bb_t.size)); (try (have y0 := dz.c0; have y1 := dz.c1; have x0 := dz.f0; have x1 := dz.f1)))
            | (go_at_call 127; refine (K_t.out _ (by first | with_reducible exact Below.refl _ _ | with_reducible exact (Below.refl _ _).drew | with_reducible exact bb_t | with_reducible exact bb_k | with_reducible exact (Below.refl _ _).alloc (Nat.le_refl _) _ | with_reducible exact ((Below.refl _ _).alloc (Nat.le_refl _) _).drew | with_reducible exact bb_t.alloc bb_t.size _ | with_reducible exact bb_k.alloc bb_k.size _ | fail)).mono ?_; rintro e w_t ⟨v_t, rfl, o_t, lo_t, bw_t, bb_t⟩; obtain ⟨a_t, c_t, rfl⟩ := o_t.slice; (try first | with_reducible (have o_k := o_k.below bw_t) | with_reducible (have o_k := (o_k.alloc _).below bw_t)); (try with_reducible (have dz := Bx.below dz bw_t; have pz := pz)); (try first | with_reducible (have dz := (show Bx w_t W0.heap.size 32 (false) (.slice none 0 0) from Bx.below (show Bx (World.drew (W0.alloc (.cells #[.bool false, .slice none 0 0] 32))) W0.heap.size 32 (false) (.slice none 0 0) from Bx.drew (Bx.new _ _ _ _)) bw_t); have pz : W0.heap.size ≤ W0.heap.size := Nat.le_refl _) | with_reducible (have dz := (show Bx w_t w_k.heap.size 32 (false) (.slice none 0 0) from Bx.below (Bx.new _ _ _ _) bw_t); have pz : W0.heap.size ≤ w_k.heap.size := bb_k.size)); (try (have y0 := dz.c0; have y1 := dz.c1; have x0 := dz.f0; have x1 := dz.f1))))
        all_goals go_wp2_with fail
        all_goals go_meet
        all_goals first
          | exact ⟨_, _, _, _, rfl, Lib.hid dz.set, Lib.hid (own_bx2 o_k dz (by decide) _ _), Lib.hid pz, Lib.hid ((bb_k.setCell pz _).setCell pz _)⟩
          | exact ⟨_, _, _, _, rfl, Lib.hid (Bx.new _ _ _ _), Lib.hid (o_k.alloc _), Lib.hid bb_k.size, Lib.hid (bb_k.alloc bb_k.size _)⟩
      clear c0_x c1_x c2_x
      clear c0_y c1_y c2_y
      clear HS lt_x lt_y
      obtain ⟨p_bl, a_bl, n_bl, c_bl, rfl, hD, hO, hp, hB⟩ := hcut
      obtain ⟨wc4, hwc⟩ : ∃ x, x = wc := ⟨_, rfl⟩
      simp only [← hwc] at *
      clear hwc
      have bw9 := hB.out
      have M_bl := hD
      have Q_qbl := Lib.hid hO.out.row
      clear hD hO hp K_t K_k
      replace B := Lib.hid (B.out.trans (bw9.mono B.out.size))
      replace BB := Lib.hid (BB.out.trans (bw9.mono BB.out.size))
      clear hB bw9
      have K_t := Lib.hid (fun (W : World) (hW : Below wc4.heap.size wc4 W) => pre_own (R := fun v => v) (spec_mulAny _ _ y d W (rowOf_below (rowOf_below RA_y.out B.out) hW) (rowOf_below (rowOf_below RA_d.out B.out) hW) (by have := B_y.out; omega) (by have := B_d.out; omega)) hW)
      have K_k := Lib.hid (fun (W : World) (hW : Below wc4.heap.size wc4 W) (vv : Value) (hr : RowOf iV W vv (limI (y * d))) => pre_own (R := fun v => .agg #[.bool (b1 && decide (0 < y * d)), v]) (spec_makeN b1 vv (y * d) W hr P2.out) hW)
      have c0_x := (D_x.out.below BB.out).c0
      have c1_x := (D_x.out.below BB.out).c1
      have c2_x := (D_x.out.below BB.out).c2
      have c0_y := (D_y.out.below BB.out).c0
      have c1_y := (D_y.out.below BB.out).c1
      have c2_y := (D_y.out.below BB.out).c2
      go_upto_region 5 with fail
      have HS := Lib.hid (show ∀ W : World, Below wc4.heap.size wc4 W → (W.cell? ⟨w.heap.size, 0, none⟩ = some (.bool b0) ∧ W.cell? ⟨w.heap.size, 1, none⟩ = some (.slice a0 nx c0) ∧ W.cell? ⟨w.heap.size, 2, none⟩ = some (.slice e0 nd f0) ∧ W.cell? ⟨(w.heap.size + 1), 0, none⟩ = some (.bool b1) ∧ W.cell? ⟨(w.heap.size + 1), 1, none⟩ = some (.slice a1 ny c1) ∧ W.cell? ⟨(w.heap.size + 1), 2, none⟩ = some (.slice e1 ne f1)) from fun W hW => ⟨(hW.cell (p := ⟨w.heap.size, 0, none⟩) (D_x.out.below BB.out).lt).trans c0_x, (hW.cell (p := ⟨w.heap.size, 1, none⟩) (D_x.out.below BB.out).lt).trans c1_x, (hW.cell (p := ⟨w.heap.size, 2, none⟩) (D_x.out.below BB.out).lt).trans c2_x, (hW.cell (p := ⟨(w.heap.size + 1), 0, none⟩) (D_y.out.below BB.out).lt).trans c0_y, (hW.cell (p := ⟨(w.heap.size + 1), 1, none⟩) (D_y.out.below BB.out).lt).trans c1_y, (hW.cell (p := ⟨(w.heap.size + 1), 2, none⟩) (D_y.out.below BB.out).lt).trans c2_y⟩)
      have lt_x := (D_x.out.below BB.out).lt
      have lt_y := (D_y.out.below BB.out).lt
      go_cut [7] from 38 (fun q0 wc => ∃ (p : Nat) (a_n : Option Addr) (n_n c_n : Nat), q0 = .pointer (some ⟨p, 0, none⟩) ∧ Hid (Bx wc p 32 (b1 && decide (0 < y * d)) (.slice a_n n_n c_n)) ∧ Hid (OwnI wc wc4.heap.size (.slice a_n n_n c_n) (limI (y * d))) ∧ Hid (wc4.heap.size ≤ p) ∧ Hid (Below wc4.heap.size wc4 wc))
      case first =>
        go_region_held3 (fun w' => w'.cell? ⟨w.heap.size, 0, none⟩ = some (.bool b0) ∧ w'.cell? ⟨w.heap.size, 1, none⟩ = some (.slice a0 nx c0) ∧ w'.cell? ⟨w.heap.size, 2, none⟩ = some (.slice e0 nd f0) ∧ w'.cell? ⟨(w.heap.size + 1), 0, none⟩ = some (.bool b1) ∧ w'.cell? ⟨(w.heap.size + 1), 1, none⟩ = some (.slice a1 ny c1) ∧ w'.cell? ⟨(w.heap.size + 1), 2, none⟩ = some (.slice e1 ne f1)) (first | exact HS.out _ (by first | with_reducible exact Below.refl _ _ | with_reducible exact (Below.refl _ _).drew | with_reducible exact bb_t | with_reducible exact bb_k | with_reducible exact (Below.refl _ _).alloc (Nat.le_refl _) _ | with_reducible exact ((Below.refl _ _).alloc (Nat.le_refl _) _).drew | with_reducible exact bb_t.alloc bb_t.size _ | with_reducible exact bb_k.alloc bb_k.size _ | fail) | exact ⟨(cell_far (show w.heap.size ≠ _ from fun e => absurd pz (by omega)) _ _).trans ((HS.out _ (by first | with_reducible exact Below.refl _ _ | with_reducible exact (Below.refl _ _).drew | with_reducible exact bb_t | with_reducible exact bb_k | with_reducible exact (Below.refl _ _).alloc (Nat.le_refl _) _ | with_reducible exact ((Below.refl _ _).alloc (Nat.le_refl _) _).drew | with_reducible exact bb_t.alloc bb_t.size _ | with_reducible exact bb_k.alloc bb_k.size _ | fail)).1), (cell_far (show w.heap.size ≠ _ from fun e => absurd pz (by omega)) _ _).trans ((HS.out _ (by first | with_reducible exact Below.refl _ _ | with_reducible exact (Below.refl _ _).drew | with_reducible exact bb_t | with_reducible exact bb_k | with_reducible exact (Below.refl _ _).alloc (Nat.le_refl _) _ | with_reducible exact ((Below.refl _ _).alloc (Nat.le_refl _) _).drew | with_reducible exact bb_t.alloc bb_t.size _ | with_reducible exact bb_k.alloc bb_k.size _ | fail)).2.1), (cell_far (show w.heap.size ≠ _ from fun e => absurd pz (by omega)) _ _).trans ((HS.out _ (by first | with_reducible exact Below.refl _ _ | with_reducible exact (Below.refl _ _).drew | with_reducible exact bb_t | with_reducible exact bb_k | with_reducible exact (Below.refl _ _).alloc (Nat.le_refl _) _ | with_reducible exact ((Below.refl _ _).alloc (Nat.le_refl _) _).drew | with_reducible exact bb_t.alloc bb_t.size _ | with_reducible exact bb_k.alloc bb_k.size _ | fail)).2.2.1), (cell_far (show (w.heap.size + 1) ≠ _ from fun e => absurd pz (by omega)) _ _).trans ((HS.out _ (by first | with_reducible exact Below.refl _ _ | with_reducible exact (Below.refl _ _).drew | with_reducible exact bb_t | with_reducible exact bb_k | with_reducible exact (Below.refl _ _).alloc (Nat.le_refl _) _ | with_reducible exact ((Below.refl _ _).alloc (Nat.le_refl _) _).drew | with_reducible exact bb_t.alloc bb_t.size _ | with_reducible exact bb_k.alloc bb_k.size _ | fail)).2.2.2.1), (cell_far (show (w.heap.size + 1) ≠ _ from fun e => absurd pz (by omega)) _ _).trans ((HS.out _ (by first | with_reducible exact Below.refl _ _ | with_reducible exact (Below.refl _ _).drew | with_reducible exact bb_t | with_reducible exact bb_k | with_reducible exact (Below.refl _ _).alloc (Nat.le_refl _) _ | with_reducible exact ((Below.refl _ _).alloc (Nat.le_refl _) _).drew | with_reducible exact bb_t.alloc bb_t.size _ | with_reducible exact bb_k.alloc bb_k.size _ | fail)).2.2.2.2.1), (cell_far (show (w.heap.size + 1) ≠ _ from fun e => absurd pz (by omega)) _ _).trans ((HS.out _ (by first | with_reducible exact Below.refl _ _ | with_reducible exact (Below.refl _ _).drew | with_reducible exact bb_t | with_reducible exact bb_k | with_reducible exact (Below.refl _ _).alloc (Nat.le_refl _) _ | with_reducible exact ((Below.refl _ _).alloc (Nat.le_refl _) _).drew | with_reducible exact bb_t.alloc bb_t.size _ | with_reducible exact bb_k.alloc bb_k.size _ | fail)).2.2.2.2.2)⟩)
          (first
            | (go_at_call 135; refine (K_k.out _ (by first | with_reducible exact Below.refl _ _ | with_reducible exact (Below.refl _ _).drew | with_reducible exact bb_t | with_reducible exact bb_k | with_reducible exact (Below.refl _ _).alloc (Nat.le_refl _) _ | with_reducible exact ((Below.refl _ _).alloc (Nat.le_refl _) _).drew | with_reducible exact bb_t.alloc bb_t.size _ | with_reducible exact bb_k.alloc bb_k.size _ | fail) _ (by first | with_reducible exact o_t.row | with_reducible exact (o_t.alloc _).row)).mono ?_; rintro e w_k ⟨v_k, rfl, o_k, lo_k, bw_k, bb_k⟩; obtain ⟨a_k, c_k, rfl⟩ := o_k.slice; (try first | with_reducible (have o_t := o_t.below bw_k) | with_reducible (have o_t := (o_t.alloc _).below bw_k)); (try with_reducible (have dz := Bx.below dz bw_k; have pz := pz)); (try first | with_reducible (have dz := (show Bx w_k wc4.heap.size 32 (false) (.slice none 0 0) from Bx.below (show Bx (World.drew (wc4.alloc (.cells #[.bool false, .slice none 0 0] 32))) wc4.heap.size 32 (false) (.slice none 0 0) from Bx.drew (Bx.new _ _ _ _)) bw_k); have pz : wc4.heap.size ≤ wc4.heap.size := Nat.le_refl _) | with_reducible (have dz := (show Bx w_k w_t.heap.size 32 (false) (.slice none 0 0) from Bx.below (Bx.new _ _ _ _) bw_k); have pz : wc4.heap.size ≤ w_t.heap.size := bb_t.size)); (try (have y0 := dz.c0; have y1 := dz.c1; have x0 := dz.f0; have x1 := dz.f1)))
            | (go_at_call 127; refine (K_t.out _ (by first | with_reducible exact Below.refl _ _ | with_reducible exact (Below.refl _ _).drew | with_reducible exact bb_t | with_reducible exact bb_k | with_reducible exact (Below.refl _ _).alloc (Nat.le_refl _) _ | with_reducible exact ((Below.refl _ _).alloc (Nat.le_refl _) _).drew | with_reducible exact bb_t.alloc bb_t.size _ | with_reducible exact bb_k.alloc bb_k.size _ | fail)).mono ?_; rintro e w_t ⟨v_t, rfl, o_t, lo_t, bw_t, bb_t⟩; obtain ⟨a_t, c_t, rfl⟩ := o_t.slice; (try first | with_reducible (have o_k := o_k.below bw_t) | with_reducible (have o_k := (o_k.alloc _).below bw_t)); (try with_reducible (have dz := Bx.below dz bw_t; have pz := pz)); (try first | with_reducible (have dz := (show Bx w_t wc4.heap.size 32 (false) (.slice none 0 0) from Bx.below (show Bx (World.drew (wc4.alloc (.cells #[.bool false, .slice none 0 0] 32))) wc4.heap.size 32 (false) (.slice none 0 0) from Bx.drew (Bx.new _ _ _ _)) bw_t); have pz : wc4.heap.size ≤ wc4.heap.size := Nat.le_refl _) | with_reducible (have dz := (show Bx w_t w_k.heap.size 32 (false) (.slice none 0 0) from Bx.below (Bx.new _ _ _ _) bw_t); have pz : wc4.heap.size ≤ w_k.heap.size := bb_k.size)); (try (have y0 := dz.c0; have y1 := dz.c1; have x0 := dz.f0; have x1 := dz.f1))))
        all_goals go_wp2_with fail
        all_goals go_meet
        all_goals first
          | exact ⟨_, _, _, _, rfl, Lib.hid dz.set, Lib.hid (own_bx2 o_k dz (by decide) _ _), Lib.hid pz, Lib.hid ((bb_k.setCell pz _).setCell pz _)⟩
          | exact ⟨_, _, _, _, rfl, Lib.hid (Bx.new _ _ _ _), Lib.hid (o_k.alloc _), Lib.hid bb_k.size, Lib.hid (bb_k.alloc bb_k.size _)⟩
      clear c0_x c1_x c2_x
      clear c0_y c1_y c2_y
      clear HS lt_x lt_y
      obtain ⟨p_br, a_br, n_br, c_br, rfl, hD, hO, hp, hB⟩ := hcut
      obtain ⟨wc5, hwc⟩ : ∃ x, x = wc := ⟨_, rfl⟩
      simp only [← hwc] at *
      clear hwc
      have bw9 := hB.out
      replace M_bl := Lib.hid (M_bl.out.below bw9)
      replace Q_qbl := Lib.hid (rowOf_below Q_qbl.out bw9)
      have M_br := hD
      have Q_qbr := Lib.hid hO.out.row
      clear hD hO hp K_t K_k
      replace B := Lib.hid (B.out.trans (bw9.mono B.out.size))
      replace BB := Lib.hid (BB.out.trans (bw9.mono BB.out.size))
      clear hB bw9
      have c0_bl := M_bl.out.c0
      have c1_bl := M_bl.out.c1
      have c0_br := M_br.out.c0
      have c1_br := M_br.out.c1
      go_wp2_with fail
      clear c0_bl c1_bl
      clear c0_br c1_br
      have hc9 := spec_addN (b0 && decide (0 < x * e)) _ (x * e) (b1 && decide (0 < y * d)) _ (y * d) wc5 Q_qbl.out Q_qbr.out (by have := L1.out; omega) (by have := L2.out; omega) (by rw [sgAdd_norm.2, HNN.out]; exact PN.out)
      rw [sgAdd_norm.1, sgAdd_norm.2, HNN.out, HE.out.1] at hc9
      refine (hc9).mono ?_
      rintro e w3 ⟨v_n, rfl, o_n, bw3⟩
      obtain ⟨a_n, c_n, rfl⟩ := o_n.slice
      replace M_bl := Lib.hid (M_bl.out.below bw3)
      replace Q_qbl := Lib.hid (rowOf_below Q_qbl.out bw3)
      replace M_br := Lib.hid (M_br.out.below bw3)
      replace Q_qbr := Lib.hid (rowOf_below Q_qbr.out bw3)
      have O_n := Lib.hid (o_n.base BB.out.size)
      clear o_n
      replace B := Lib.hid (B.out.trans (bw3.mono B.out.size))
      replace BB := Lib.hid (BB.out.trans (bw3.mono BB.out.size))
      clear bw3
      go_wp2_with fail
      obtain ⟨W5, hW5⟩ : ∃ X9, X9 = w3.alloc (.cells #[.bool (SS && decide (0 < NN)), .slice a_n (limI NN).length c_n] 32) := ⟨_, rfl⟩
      have M_s := Lib.hid (show Bx W5 w3.heap.size 32 (SS && decide (0 < NN)) (.slice a_n (limI NN).length c_n) by rw [hW5]; exact Bx.new _ _ _ _)
      replace O_n := Lib.hid (show OwnI W5 W0.heap.size _ _ by rw [hW5]; exact O_n.out.alloc _)
      have PS := Lib.hid (show W0.heap.size ≤ w3.heap.size from BB.out.size)
      replace BB := Lib.hid (show Below W0.heap.size W0 W5 by rw [hW5]; exact BB.out.alloc BB.out.size _)
      replace B := Lib.hid (show Below w.heap.size w W5 by rw [hW5]; exact B.out.alloc B.out.size _)
      rw [← hW5]
      clear hW5 M_bl M_br Q_qbl Q_qbr
      obtain ⟨ps, hps⟩ : ∃ p, w3.heap.size = p := ⟨_, rfl⟩
      rw [hps] at M_s PS ⊢
      clear hps
      have K_m := Lib.hid (fun (W : World) (hW : Below W5.heap.size W5 W) => pre_own (R := fun v => v) (spec_mulAny _ _ d e W (rowOf_below (rowOf_below RA_d.out B.out) hW) (rowOf_below (rowOf_below RA_e.out B.out) hW) (by have := B_d.out; omega) (by have := B_e.out; omega)) hW)
      have K_q := Lib.hid (fun (W : World) (hW : Below W5.heap.size W5 W) (vv : Value) (hr : RowOf iV W vv (limI (d * e))) => pre_rat ((by have h := spec_low (SS && decide (0 < NN)) _ NN vv (d * e) W (rowOf_below O_n.out.row hW) hr PN.out P3.out; rw [HE.out.2.1, HE.out.2.2] at h; exact h)) hW)
      have P9 := PS.out
      have SZ9 := SZ.out
      have c0_s := M_s.out.c0
      have c1_s := M_s.out.c1
      have c0_x := (D_x.out.below BB.out).c0
      have c1_x := (D_x.out.below BB.out).c1
      have c2_x := (D_x.out.below BB.out).c2
      have c0_y := (D_y.out.below BB.out).c0
      have c1_y := (D_y.out.below BB.out).c1
      have c2_y := (D_y.out.below BB.out).c2
      go_wp2_with fail
      have HS := Lib.hid (show ∀ W : World, Below W5.heap.size W5 W → (W.cell? ⟨ps, 0, none⟩ = some (.bool (SS && decide (0 < NN))) ∧ W.cell? ⟨ps, 1, none⟩ = some (.slice a_n (limI NN).length c_n) ∧ W.cell? ⟨w.heap.size, 0, none⟩ = some (.bool b0) ∧ W.cell? ⟨w.heap.size, 1, none⟩ = some (.slice a0 nx c0) ∧ W.cell? ⟨w.heap.size, 2, none⟩ = some (.slice e0 nd f0) ∧ W.cell? ⟨(w.heap.size + 1), 0, none⟩ = some (.bool b1) ∧ W.cell? ⟨(w.heap.size + 1), 1, none⟩ = some (.slice a1 ny c1) ∧ W.cell? ⟨(w.heap.size + 1), 2, none⟩ = some (.slice e1 ne f1)) from fun W hW => ⟨(hW.cell (p := ⟨ps, 0, none⟩) M_s.out.lt).trans c0_s, (hW.cell (p := ⟨ps, 1, none⟩) M_s.out.lt).trans c1_s, (hW.cell (p := ⟨w.heap.size, 0, none⟩) (D_x.out.below BB.out).lt).trans c0_x, (hW.cell (p := ⟨w.heap.size, 1, none⟩) (D_x.out.below BB.out).lt).trans c1_x, (hW.cell (p := ⟨w.heap.size, 2, none⟩) (D_x.out.below BB.out).lt).trans c2_x, (hW.cell (p := ⟨(w.heap.size + 1), 0, none⟩) (D_y.out.below BB.out).lt).trans c0_y, (hW.cell (p := ⟨(w.heap.size + 1), 1, none⟩) (D_y.out.below BB.out).lt).trans c1_y, (hW.cell (p := ⟨(w.heap.size + 1), 2, none⟩) (D_y.out.below BB.out).lt).trans c2_y⟩)
      have lt_s := M_s.out.lt
      have lt_x := (D_x.out.below BB.out).lt
      have lt_y := (D_y.out.below BB.out).lt
      have c0_r := (D_r.out.below BB.out).c0
      have c1_r := (D_r.out.below BB.out).c1
      have c2_r := (D_r.out.below BB.out).c2
      have f0_r := (D_r.out.below BB.out).f 0
      have f1_r := (D_r.out.below BB.out).f 1
      have f2_r := (D_r.out.below BB.out).f 2
      have HF := Lib.hid (show ∀ W : World, Below W5.heap.size W5 W → (W.cell? ⟨(w.heap.size + 1 + 1), 0, none⟩ = some (.bool false) ∧ W.cell? ⟨(w.heap.size + 1 + 1), 1, none⟩ = some (.slice none 0 0) ∧ W.cell? ⟨(w.heap.size + 1 + 1), 2, none⟩ = some (.slice none 0 0) ∧ W.frozen? ⟨(w.heap.size + 1 + 1), 0, none⟩ = false ∧ W.frozen? ⟨(w.heap.size + 1 + 1), 1, none⟩ = false ∧ W.frozen? ⟨(w.heap.size + 1 + 1), 2, none⟩ = false) from fun W hW => ⟨(hW.cell (p := ⟨(w.heap.size + 1 + 1), 0, none⟩) (D_r.out.below BB.out).lt).trans c0_r, (hW.cell (p := ⟨(w.heap.size + 1 + 1), 1, none⟩) (D_r.out.below BB.out).lt).trans c1_r, (hW.cell (p := ⟨(w.heap.size + 1 + 1), 2, none⟩) (D_r.out.below BB.out).lt).trans c2_r, (hW.frozen (p := ⟨(w.heap.size + 1 + 1), 0, none⟩) (D_r.out.below BB.out).lt).trans f0_r, (hW.frozen (p := ⟨(w.heap.size + 1 + 1), 1, none⟩) (D_r.out.below BB.out).lt).trans f1_r, (hW.frozen (p := ⟨(w.heap.size + 1 + 1), 2, none⟩) (D_r.out.below BB.out).lt).trans f2_r⟩)
      go_region_held3 (fun w' => w'.cell? ⟨ps, 0, none⟩ = some (.bool (SS && decide (0 < NN))) ∧ w'.cell? ⟨ps, 1, none⟩ = some (.slice a_n (limI NN).length c_n) ∧ w'.cell? ⟨w.heap.size, 0, none⟩ = some (.bool b0) ∧ w'.cell? ⟨w.heap.size, 1, none⟩ = some (.slice a0 nx c0) ∧ w'.cell? ⟨w.heap.size, 2, none⟩ = some (.slice e0 nd f0) ∧ w'.cell? ⟨(w.heap.size + 1), 0, none⟩ = some (.bool b1) ∧ w'.cell? ⟨(w.heap.size + 1), 1, none⟩ = some (.slice a1 ny c1) ∧ w'.cell? ⟨(w.heap.size + 1), 2, none⟩ = some (.slice e1 ne f1)) (first | exact HS.out _ (by first | with_reducible exact Below.refl _ _ | with_reducible exact (Below.refl _ _).drew | with_reducible exact bb_m | with_reducible exact bb_q | fail) | exact ⟨(cell_far3 (show ps ≠ (w.heap.size + 1 + 1) from by omega) _ _ _).trans ((HS.out _ (by first | with_reducible exact Below.refl _ _ | with_reducible exact (Below.refl _ _).drew | with_reducible exact bb_m | with_reducible exact bb_q | fail)).1), (cell_far3 (show ps ≠ (w.heap.size + 1 + 1) from by omega) _ _ _).trans ((HS.out _ (by first | with_reducible exact Below.refl _ _ | with_reducible exact (Below.refl _ _).drew | with_reducible exact bb_m | with_reducible exact bb_q | fail)).2.1), (cell_far3 (show w.heap.size ≠ (w.heap.size + 1 + 1) from by omega) _ _ _).trans ((HS.out _ (by first | with_reducible exact Below.refl _ _ | with_reducible exact (Below.refl _ _).drew | with_reducible exact bb_m | with_reducible exact bb_q | fail)).2.2.1), (cell_far3 (show w.heap.size ≠ (w.heap.size + 1 + 1) from by omega) _ _ _).trans ((HS.out _ (by first | with_reducible exact Below.refl _ _ | with_reducible exact (Below.refl _ _).drew | with_reducible exact bb_m | with_reducible exact bb_q | fail)).2.2.2.1), (cell_far3 (show w.heap.size ≠ (w.heap.size + 1 + 1) from by omega) _ _ _).trans ((HS.out _ (by first | with_reducible exact Below.refl _ _ | with_reducible exact (Below.refl _ _).drew | with_reducible exact bb_m | with_reducible exact bb_q | fail)).2.2.2.2.1), (cell_far3 (show (w.heap.size + 1) ≠ (w.heap.size + 1 + 1) from by omega) _ _ _).trans ((HS.out _ (by first | with_reducible exact Below.refl _ _ | with_reducible exact (Below.refl _ _).drew | with_reducible exact bb_m | with_reducible exact bb_q | fail)).2.2.2.2.2.1), (cell_far3 (show (w.heap.size + 1) ≠ (w.heap.size + 1 + 1) from by omega) _ _ _).trans ((HS.out _ (by first | with_reducible exact Below.refl _ _ | with_reducible exact (Below.refl _ _).drew | with_reducible exact bb_m | with_reducible exact bb_q | fail)).2.2.2.2.2.2.1), (cell_far3 (show (w.heap.size + 1) ≠ (w.heap.size + 1 + 1) from by omega) _ _ _).trans ((HS.out _ (by first | with_reducible exact Below.refl _ _ | with_reducible exact (Below.refl _ _).drew | with_reducible exact bb_m | with_reducible exact bb_q | fail)).2.2.2.2.2.2.2)⟩)
        (first
          | (go_at_call 126; refine (K_q.out _ (by first | with_reducible exact Below.refl _ _ | with_reducible exact (Below.refl _ _).drew | with_reducible exact bb_m | with_reducible exact bb_q | fail) _ (by first | with_reducible exact o_m.row)).mono ?_; rintro e w_q ⟨v_q, d_q, rfl, u_q, lo_q, bw_q, bb_q⟩; obtain ⟨a_q, c_q, e_q, f_q, rfl, rfl⟩ := u_q.slices; (try first | with_reducible (have o_m := o_m.below bw_q)); obtain ⟨s0, s1, s2, t0, t1, t2⟩ := HF.out _ bb_q)
          | (go_at_call 127; refine (K_m.out _ (by first | with_reducible exact Below.refl _ _ | with_reducible exact (Below.refl _ _).drew | with_reducible exact bb_m | with_reducible exact bb_q | fail)).mono ?_; rintro e w_m ⟨v_m, rfl, o_m, lo_m, bw_m, bb_m⟩; obtain ⟨a_m, c_m, rfl⟩ := o_m.slice; (try first | with_reducible (have u_q := u_q.below bw_m)); obtain ⟨s0, s1, s2, t0, t1, t2⟩ := HF.out _ bb_m))
      all_goals (have D9 := D_r.out.below (BB.out.trans (bb_q.mono BB.out.size)); obtain ⟨e1, e2⟩ := rat_end (b' := mkB (SS && decide (0 < NN)) XX DD) (B.out.trans (bb_q.mono B.out.size)) D9 (OwnR.base (B' := W0.heap.size) u_q BB.out.size) (by decide) (by have := SZ.out; omega) (by omega) (.slice a_q (mkZ XX DD).length c_q) (.slice e_q (mkD XX DD).length f_q); have D8 := Rx.set3 (b' := mkB (SS && decide (0 < NN)) XX DD) (v' := .slice a_q (mkZ XX DD).length c_q) (d' := .slice e_q (mkD XX DD).length f_q) D9; have hc0 := D8.c0; have hc1 := D8.c1; have hc2 := D8.c2; go_wp2; exact bodyPost_ret (v := .agg #[.bool (mkB (SS && decide (0 < NN)) XX DD), .slice a_q (mkZ XX DD).length c_q, .slice e_q (mkD XX DD).length f_q]) (by simp [results, Tryz.results178, go_sem, hc0, hc1, hc2]) rfl ⟨_, _, rfl, e1, e2⟩)
    | true =>
      have Q1 := Lib.hid hd1
      have Q2 := Lib.hid (show decide (e = 1) = false by have h := HD1.out; rw [hd1, Bool.true_and] at h; exact h)
      clear hd1 HD1
      go_enter Tryz.func178, Tryz.ntmps178
      go_wp2_with fail
      obtain ⟨W0, hW0⟩ : ∃ x, x = (((w.alloc (.cells #[.bool b0, .slice a0 nx c0, .slice e0 nd f0] 34)).alloc (.cells #[.bool b1, .slice a1 ny c1, .slice e1 ne f1] 34)).alloc (.cells #[.bool false, .slice none 0 0, .slice none 0 0] 34)) := ⟨_, rfl⟩
      have B := Lib.hid (show Below w.heap.size w W0 by rw [hW0]; exact ((((Below.refl _ _).alloc (Nat.le_refl _) _).alloc (by simp) _).alloc (by simp; omega) _))
      have D_x := Lib.hid (rx_at (show Rx W0 _ 34 (b0) (.slice a0 nx c0) (.slice e0 nd f0) by rw [hW0]; exact ((Rx.new _ _ _ _ _).alloc _).alloc _) (show w.heap.size = _ by simp))
      have D_y := Lib.hid (rx_at (show Rx W0 _ 34 (b1) (.slice a1 ny c1) (.slice e1 ne f1) by rw [hW0]; exact (Rx.new _ _ _ _ _).alloc _) (show (w.heap.size + 1) = _ by simp))
      have D_r := Lib.hid (rx_at (show Rx W0 _ 34 (false) (.slice none 0 0) (.slice none 0 0) by rw [hW0]; exact Rx.new _ _ _ _ _) (show (w.heap.size + 1 + 1) = _ by simp))
      have SZ := Lib.hid (show W0.heap.size = w.heap.size + 1 + 1 + 1 by rw [hW0]; simp)
      rw [← hW0]
      clear hW0
      have BB := Lib.hid (Below.refl W0.heap.size W0)
      refine (spec_isOne _ d _ (rowOf_below RA_d.out B.out)).mono ?_
      rw [Q1.out]
      rintro r9 w9 ⟨rfl, h9⟩
      replace h9 := h9.symm
      subst h9
      have c0_y := (D_y.out.below BB.out).c0
      have c1_y := (D_y.out.below BB.out).c1
      have c2_y := (D_y.out.below BB.out).c2
      go_wp2_with fail
      clear c0_y c1_y c2_y
      refine (spec_isOne _ e _ (rowOf_below RA_e.out B.out)).mono ?_
      rw [Q2.out]
      rintro r9 w9 ⟨rfl, h9⟩
      replace h9 := h9.symm
      subst h9
      have K_t := Lib.hid (fun (W : World) (hW : Below W0.heap.size W0 W) => pre_own (R := fun v => v) (spec_mulAny _ _ x e W (rowOf_below (rowOf_below RA_x.out B.out) hW) (rowOf_below (rowOf_below RA_e.out B.out) hW) (by have := B_x.out; omega) (by have := B_e.out; omega)) hW)
      have K_k := Lib.hid (fun (W : World) (hW : Below W0.heap.size W0 W) (vv : Value) (hr : RowOf iV W vv (limI (x * e))) => pre_own (R := fun v => .agg #[.bool (b0 && decide (0 < x * e)), v]) (spec_makeN b0 vv (x * e) W hr P1.out) hW)
      have c0_x := (D_x.out.below BB.out).c0
      have c1_x := (D_x.out.below BB.out).c1
      have c2_x := (D_x.out.below BB.out).c2
      have c0_y := (D_y.out.below BB.out).c0
      have c1_y := (D_y.out.below BB.out).c1
      have c2_y := (D_y.out.below BB.out).c2
      go_upto_region 4 with fail
      have HS := Lib.hid (show ∀ W : World, Below W0.heap.size W0 W → (W.cell? ⟨w.heap.size, 0, none⟩ = some (.bool b0) ∧ W.cell? ⟨w.heap.size, 1, none⟩ = some (.slice a0 nx c0) ∧ W.cell? ⟨w.heap.size, 2, none⟩ = some (.slice e0 nd f0) ∧ W.cell? ⟨(w.heap.size + 1), 0, none⟩ = some (.bool b1) ∧ W.cell? ⟨(w.heap.size + 1), 1, none⟩ = some (.slice a1 ny c1) ∧ W.cell? ⟨(w.heap.size + 1), 2, none⟩ = some (.slice e1 ne f1)) from fun W hW => ⟨(hW.cell (p := ⟨w.heap.size, 0, none⟩) (D_x.out.below BB.out).lt).trans c0_x, (hW.cell (p := ⟨w.heap.size, 1, none⟩) (D_x.out.below BB.out).lt).trans c1_x, (hW.cell (p := ⟨w.heap.size, 2, none⟩) (D_x.out.below BB.out).lt).trans c2_x, (hW.cell (p := ⟨(w.heap.size + 1), 0, none⟩) (D_y.out.below BB.out).lt).trans c0_y, (hW.cell (p := ⟨(w.heap.size + 1), 1, none⟩) (D_y.out.below BB.out).lt).trans c1_y, (hW.cell (p := ⟨(w.heap.size + 1), 2, none⟩) (D_y.out.below BB.out).lt).trans c2_y⟩)
      have lt_x := (D_x.out.below BB.out).lt
      have lt_y := (D_y.out.below BB.out).lt
      go_cut [6] from 28 (fun q0 wc => ∃ (p : Nat) (a_n : Option Addr) (n_n c_n : Nat), q0 = .pointer (some ⟨p, 0, none⟩) ∧ Hid (Bx wc p 32 (b0 && decide (0 < x * e)) (.slice a_n n_n c_n)) ∧ Hid (OwnI wc W0.heap.size (.slice a_n n_n c_n) (limI (x * e))) ∧ Hid (W0.heap.size ≤ p) ∧ Hid (Below W0.heap.size W0 wc))
      case first =>
        go_region_held3 (fun w' => w'.cell? ⟨w.heap.size, 0, none⟩ = some (.bool b0) ∧ w'.cell? ⟨w.heap.size, 1, none⟩ = some (.slice a0 nx c0) ∧ w'.cell? ⟨w.heap.size, 2, none⟩ = some (.slice e0 nd f0) ∧ w'.cell? ⟨(w.heap.size + 1), 0, none⟩ = some (.bool b1) ∧ w'.cell? ⟨(w.heap.size + 1), 1, none⟩ = some (.slice a1 ny c1) ∧ w'.cell? ⟨(w.heap.size + 1), 2, none⟩ = some (.slice e1 ne f1)) (first | exact HS.out _ (by first | with_reducible exact Below.refl _ _ | with_reducible exact (Below.refl _ _).drew | with_reducible exact bb_t | with_reducible exact bb_k | with_reducible exact (Below.refl _ _).alloc (Nat.le_refl _) _ | with_reducible exact ((Below.refl _ _).alloc (Nat.le_refl _) _).drew | with_reducible exact bb_t.alloc bb_t.size _ | with_reducible exact bb_k.alloc bb_k.size _ | fail) | exact ⟨(cell_far (show w.heap.size ≠ _ from fun e => absurd pz (by omega)) _ _).trans ((HS.out _ (by first | with_reducible exact Below.refl _ _ | with_reducible exact (Below.refl _ _).drew | with_reducible exact bb_t | with_reducible exact bb_k | with_reducible exact (Below.refl _ _).alloc (Nat.le_refl _) _ | with_reducible exact ((Below.refl _ _).alloc (Nat.le_refl _) _).drew | with_reducible exact bb_t.alloc bb_t.size _ | with_reducible exact bb_k.alloc bb_k.size _ | fail)).1), (cell_far (show w.heap.size ≠ _ from fun e => absurd pz (by omega)) _ _).trans ((HS.out _ (by first | with_reducible exact Below.refl _ _ | with_reducible exact (Below.refl _ _).drew | with_reducible exact bb_t | with_reducible exact bb_k | with_reducible exact (Below.refl _ _).alloc (Nat.le_refl _) _ | with_reducible exact ((Below.refl _ _).alloc (Nat.le_refl _) _).drew | with_reducible exact bb_t.alloc bb_t.size _ | with_reducible exact bb_k.alloc bb_k.size _ | fail)).2.1), (cell_far (show w.heap.size ≠ _ from fun e => absurd pz (by omega)) _ _).trans ((HS.out _ (by first | with_reducible exact Below.refl _ _ | with_reducible exact (Below.refl _ _).drew | with_reducible exact bb_t | with_reducible exact bb_k | with_reducible exact (Below.refl _ _).alloc (Nat.le_refl _) _ | with_reducible exact ((Below.refl _ _).alloc (Nat.le_refl _) _).drew | with_reducible exact bb_t.alloc bb_t.size _ | with_reducible exact bb_k.alloc bb_k.size _ | fail)).2.2.1), (cell_far (show (w.heap.size + 1) ≠ _ from fun e => absurd pz (by omega)) _ _).trans ((HS.out _ (by first | with_reducible exact Below.refl _ _ | with_reducible exact (Below.refl _ _).drew | with_reducible exact bb_t | with_reducible exact bb_k | with_reducible exact (Below.refl _ _).alloc (Nat.le_refl _) _ | with_reducible exact ((Below.refl _ _).alloc (Nat.le_refl _) _).drew | with_reducible exact bb_t.alloc bb_t.size _ | with_reducible exact bb_k.alloc bb_k.size _ | fail)).2.2.2.1), (cell_far (show (w.heap.size + 1) ≠ _ from fun e => absurd pz (by omega)) _ _).trans ((HS.out _ (by first | with_reducible exact Below.refl _ _ | with_reducible exact (Below.refl _ _).drew | with_reducible exact bb_t | with_reducible exact bb_k | with_reducible exact (Below.refl _ _).alloc (Nat.le_refl _) _ | with_reducible exact ((Below.refl _ _).alloc (Nat.le_refl _) _).drew | with_reducible exact bb_t.alloc bb_t.size _ | with_reducible exact bb_k.alloc bb_k.size _ | fail)).2.2.2.2.1), (cell_far (show (w.heap.size + 1) ≠ _ from fun e => absurd pz (by omega)) _ _).trans ((HS.out _ (by first | with_reducible exact Below.refl _ _ | with_reducible exact (Below.refl _ _).drew | with_reducible exact bb_t | with_reducible exact bb_k | with_reducible exact (Below.refl _ _).alloc (Nat.le_refl _) _ | with_reducible exact ((Below.refl _ _).alloc (Nat.le_refl _) _).drew | with_reducible exact bb_t.alloc bb_t.size _ | with_reducible exact bb_k.alloc bb_k.size _ | fail)).2.2.2.2.2)⟩)
          (first
            | (go_at_call 135; refine (K_k.out _ (by first | with_reducible exact Below.refl _ _ | with_reducible exact (Below.refl _ _).drew | with_reducible exact bb_t | with_reducible exact bb_k | with_reducible exact (Below.refl _ _).alloc (Nat.le_refl _) _ | with_reducible exact ((Below.refl _ _).alloc (Nat.le_refl _) _).drew | with_reducible exact bb_t.alloc bb_t.size _ | with_reducible exact bb_k.alloc bb_k.size _ | fail) _ (by first | with_reducible exact o_t.row | with_reducible exact (o_t.alloc _).row)).mono ?_; rintro e w_k ⟨v_k, rfl, o_k, lo_k, bw_k, bb_k⟩; obtain ⟨a_k, c_k, rfl⟩ := o_k.slice; (try first | with_reducible (have o_t := o_t.below bw_k) | with_reducible (have o_t := (o_t.alloc _).below bw_k)); (try with_reducible (have dz := Bx.below dz bw_k; have pz := pz)); (try first | with_reducible (have dz := (show Bx w_k W0.heap.size 32 (false) (.slice none 0 0) from Bx.below (show Bx (World.drew (W0.alloc (.cells #[.bool false, .slice none 0 0] 32))) W0.heap.size 32 (false) (.slice none 0 0) from Bx.drew (Bx.new _ _ _ _)) bw_k); have pz : W0.heap.size ≤ W0.heap.size := Nat.le_refl _) | with_reducible (have dz := (show Bx w_k w_t.heap.size 32 (false) (.slice none 0 0) from Bx.below (Bx.new _ _ _ _) bw_k); have pz : W0.heap.size ≤ w_t.heap.size := bb_t.size)); (try (have y0 := dz.c0; have y1 := dz.c1; have x0 := dz.f0; have x1 := dz.f1)))
            | (go_at_call 127; refine (K_t.out _ (by first | with_reducible exact Below.refl _ _ | with_reducible exact (Below.refl _ _).drew | with_reducible exact bb_t | with_reducible exact bb_k | with_reducible exact (Below.refl _ _).alloc (Nat.le_refl _) _ | with_reducible exact ((Below.refl _ _).alloc (Nat.le_refl _) _).drew | with_reducible exact bb_t.alloc bb_t.size _ | with_reducible exact bb_k.alloc bb_k.size _ | fail)).mono ?_; rintro e w_t ⟨v_t, rfl, o_t, lo_t, bw_t, bb_t⟩; obtain ⟨a_t, c_t, rfl⟩ := o_t.slice; (try first | with_reducible (have o_k := o_k.below bw_t) | with_reducible (have o_k := (o_k.alloc _).below bw_t)); (try with_reducible (have dz := Bx.below dz bw_t; have pz := pz)); (try first | with_reducible (have dz := (show Bx w_t W0.heap.size 32 (false) (.slice none 0 0) from Bx.below (show Bx (World.drew (W0.alloc (.cells #[.bool false, .slice none 0 0] 32))) W0.heap.size 32 (false) (.slice none 0 0) from Bx.drew (Bx.new _ _ _ _)) bw_t); have pz : W0.heap.size ≤ W0.heap.size := Nat.le_refl _) | with_reducible (have dz := (show Bx w_t w_k.heap.size 32 (false) (.slice none 0 0) from Bx.below (Bx.new _ _ _ _) bw_t); have pz : W0.heap.size ≤ w_k.heap.size := bb_k.size)); (try (have y0 := dz.c0; have y1 := dz.c1; have x0 := dz.f0; have x1 := dz.f1))))
        all_goals go_wp2_with fail
        all_goals go_meet
        all_goals first
          | exact ⟨_, _, _, _, rfl, Lib.hid dz.set, Lib.hid (own_bx2 o_k dz (by decide) _ _), Lib.hid pz, Lib.hid ((bb_k.setCell pz _).setCell pz _)⟩
          | exact ⟨_, _, _, _, rfl, Lib.hid (Bx.new _ _ _ _), Lib.hid (o_k.alloc _), Lib.hid bb_k.size, Lib.hid (bb_k.alloc bb_k.size _)⟩
      clear c0_x c1_x c2_x
      clear c0_y c1_y c2_y
      clear HS lt_x lt_y
      obtain ⟨p_bl, a_bl, n_bl, c_bl, rfl, hD, hO, hp, hB⟩ := hcut
      obtain ⟨wc4, hwc⟩ : ∃ x, x = wc := ⟨_, rfl⟩
      simp only [← hwc] at *
      clear hwc
      have bw9 := hB.out
      have M_bl := hD
      have Q_qbl := Lib.hid hO.out.row
      clear hD hO hp K_t K_k
      replace B := Lib.hid (B.out.trans (bw9.mono B.out.size))
      replace BB := Lib.hid (BB.out.trans (bw9.mono BB.out.size))
      clear hB bw9
      have K_t := Lib.hid (fun (W : World) (hW : Below wc4.heap.size wc4 W) => pre_own (R := fun v => v) (spec_mulAny _ _ y d W (rowOf_below (rowOf_below RA_y.out B.out) hW) (rowOf_below (rowOf_below RA_d.out B.out) hW) (by have := B_y.out; omega) (by have := B_d.out; omega)) hW)
      have K_k := Lib.hid (fun (W : World) (hW : Below wc4.heap.size wc4 W) (vv : Value) (hr : RowOf iV W vv (limI (y * d))) => pre_own (R := fun v => .agg #[.bool (b1 && decide (0 < y * d)), v]) (spec_makeN b1 vv (y * d) W hr P2.out) hW)
      have c0_x := (D_x.out.below BB.out).c0
      have c1_x := (D_x.out.below BB.out).c1
      have c2_x := (D_x.out.below BB.out).c2
      have c0_y := (D_y.out.below BB.out).c0
      have c1_y := (D_y.out.below BB.out).c1
      have c2_y := (D_y.out.below BB.out).c2
      go_upto_region 5 with fail
      have HS := Lib.hid (show ∀ W : World, Below wc4.heap.size wc4 W → (W.cell? ⟨w.heap.size, 0, none⟩ = some (.bool b0) ∧ W.cell? ⟨w.heap.size, 1, none⟩ = some (.slice a0 nx c0) ∧ W.cell? ⟨w.heap.size, 2, none⟩ = some (.slice e0 nd f0) ∧ W.cell? ⟨(w.heap.size + 1), 0, none⟩ = some (.bool b1) ∧ W.cell? ⟨(w.heap.size + 1), 1, none⟩ = some (.slice a1 ny c1) ∧ W.cell? ⟨(w.heap.size + 1), 2, none⟩ = some (.slice e1 ne f1)) from fun W hW => ⟨(hW.cell (p := ⟨w.heap.size, 0, none⟩) (D_x.out.below BB.out).lt).trans c0_x, (hW.cell (p := ⟨w.heap.size, 1, none⟩) (D_x.out.below BB.out).lt).trans c1_x, (hW.cell (p := ⟨w.heap.size, 2, none⟩) (D_x.out.below BB.out).lt).trans c2_x, (hW.cell (p := ⟨(w.heap.size + 1), 0, none⟩) (D_y.out.below BB.out).lt).trans c0_y, (hW.cell (p := ⟨(w.heap.size + 1), 1, none⟩) (D_y.out.below BB.out).lt).trans c1_y, (hW.cell (p := ⟨(w.heap.size + 1), 2, none⟩) (D_y.out.below BB.out).lt).trans c2_y⟩)
      have lt_x := (D_x.out.below BB.out).lt
      have lt_y := (D_y.out.below BB.out).lt
      go_cut [7] from 38 (fun q0 wc => ∃ (p : Nat) (a_n : Option Addr) (n_n c_n : Nat), q0 = .pointer (some ⟨p, 0, none⟩) ∧ Hid (Bx wc p 32 (b1 && decide (0 < y * d)) (.slice a_n n_n c_n)) ∧ Hid (OwnI wc wc4.heap.size (.slice a_n n_n c_n) (limI (y * d))) ∧ Hid (wc4.heap.size ≤ p) ∧ Hid (Below wc4.heap.size wc4 wc))
      case first =>
        go_region_held3 (fun w' => w'.cell? ⟨w.heap.size, 0, none⟩ = some (.bool b0) ∧ w'.cell? ⟨w.heap.size, 1, none⟩ = some (.slice a0 nx c0) ∧ w'.cell? ⟨w.heap.size, 2, none⟩ = some (.slice e0 nd f0) ∧ w'.cell? ⟨(w.heap.size + 1), 0, none⟩ = some (.bool b1) ∧ w'.cell? ⟨(w.heap.size + 1), 1, none⟩ = some (.slice a1 ny c1) ∧ w'.cell? ⟨(w.heap.size + 1), 2, none⟩ = some (.slice e1 ne f1)) (first | exact HS.out _ (by first | with_reducible exact Below.refl _ _ | with_reducible exact (Below.refl _ _).drew | with_reducible exact bb_t | with_reducible exact bb_k | with_reducible exact (Below.refl _ _).alloc (Nat.le_refl _) _ | with_reducible exact ((Below.refl _ _).alloc (Nat.le_refl _) _).drew | with_reducible exact bb_t.alloc bb_t.size _ | with_reducible exact bb_k.alloc bb_k.size _ | fail) | exact ⟨(cell_far (show w.heap.size ≠ _ from fun e => absurd pz (by omega)) _ _).trans ((HS.out _ (by first | with_reducible exact Below.refl _ _ | with_reducible exact (Below.refl _ _).drew | with_reducible exact bb_t | with_reducible exact bb_k | with_reducible exact (Below.refl _ _).alloc (Nat.le_refl _) _ | with_reducible exact ((Below.refl _ _).alloc (Nat.le_refl _) _).drew | with_reducible exact bb_t.alloc bb_t.size _ | with_reducible exact bb_k.alloc bb_k.size _ | fail)).1), (cell_far (show w.heap.size ≠ _ from fun e => absurd pz (by omega)) _ _).trans ((HS.out _ (by first | with_reducible exact Below.refl _ _ | with_reducible exact (Below.refl _ _).drew | with_reducible exact bb_t | with_reducible exact bb_k | with_reducible exact (Below.refl _ _).alloc (Nat.le_refl _) _ | with_reducible exact ((Below.refl _ _).alloc (Nat.le_refl _) _).drew | with_reducible exact bb_t.alloc bb_t.size _ | with_reducible exact bb_k.alloc bb_k.size _ | fail)).2.1), (cell_far (show w.heap.size ≠ _ from fun e => absurd pz (by omega)) _ _).trans ((HS.out _ (by first | with_reducible exact Below.refl _ _ | with_reducible exact (Below.refl _ _).drew | with_reducible exact bb_t | with_reducible exact bb_k | with_reducible exact (Below.refl _ _).alloc (Nat.le_refl _) _ | with_reducible exact ((Below.refl _ _).alloc (Nat.le_refl _) _).drew | with_reducible exact bb_t.alloc bb_t.size _ | with_reducible exact bb_k.alloc bb_k.size _ | fail)).2.2.1), (cell_far (show (w.heap.size + 1) ≠ _ from fun e => absurd pz (by omega)) _ _).trans ((HS.out _ (by first | with_reducible exact Below.refl _ _ | with_reducible exact (Below.refl _ _).drew | with_reducible exact bb_t | with_reducible exact bb_k | with_reducible exact (Below.refl _ _).alloc (Nat.le_refl _) _ | with_reducible exact ((Below.refl _ _).alloc (Nat.le_refl _) _).drew | with_reducible exact bb_t.alloc bb_t.size _ | with_reducible exact bb_k.alloc bb_k.size _ | fail)).2.2.2.1), (cell_far (show (w.heap.size + 1) ≠ _ from fun e => absurd pz (by omega)) _ _).trans ((HS.out _ (by first | with_reducible exact Below.refl _ _ | with_reducible exact (Below.refl _ _).drew | with_reducible exact bb_t | with_reducible exact bb_k | with_reducible exact (Below.refl _ _).alloc (Nat.le_refl _) _ | with_reducible exact ((Below.refl _ _).alloc (Nat.le_refl _) _).drew | with_reducible exact bb_t.alloc bb_t.size _ | with_reducible exact bb_k.alloc bb_k.size _ | fail)).2.2.2.2.1), (cell_far (show (w.heap.size + 1) ≠ _ from fun e => absurd pz (by omega)) _ _).trans ((HS.out _ (by first | with_reducible exact Below.refl _ _ | with_reducible exact (Below.refl _ _).drew | with_reducible exact bb_t | with_reducible exact bb_k | with_reducible exact (Below.refl _ _).alloc (Nat.le_refl _) _ | with_reducible exact ((Below.refl _ _).alloc (Nat.le_refl _) _).drew | with_reducible exact bb_t.alloc bb_t.size _ | with_reducible exact bb_k.alloc bb_k.size _ | fail)).2.2.2.2.2)⟩)
          (first
            | (go_at_call 135; refine (K_k.out _ (by first | with_reducible exact Below.refl _ _ | with_reducible exact (Below.refl _ _).drew | with_reducible exact bb_t | with_reducible exact bb_k | with_reducible exact (Below.refl _ _).alloc (Nat.le_refl _) _ | with_reducible exact ((Below.refl _ _).alloc (Nat.le_refl _) _).drew | with_reducible exact bb_t.alloc bb_t.size _ | with_reducible exact bb_k.alloc bb_k.size _ | fail) _ (by first | with_reducible exact o_t.row | with_reducible exact (o_t.alloc _).row)).mono ?_; rintro e w_k ⟨v_k, rfl, o_k, lo_k, bw_k, bb_k⟩; obtain ⟨a_k, c_k, rfl⟩ := o_k.slice; (try first | with_reducible (have o_t := o_t.below bw_k) | with_reducible (have o_t := (o_t.alloc _).below bw_k)); (try with_reducible (have dz := Bx.below dz bw_k; have pz := pz)); (try first | with_reducible (have dz := (show Bx w_k wc4.heap.size 32 (false) (.slice none 0 0) from Bx.below (show Bx (World.drew (wc4.alloc (.cells #[.bool false, .slice none 0 0] 32))) wc4.heap.size 32 (false) (.slice none 0 0) from Bx.drew (Bx.new _ _ _ _)) bw_k); have pz : wc4.heap.size ≤ wc4.heap.size := Nat.le_refl _) | with_reducible (have dz := (show Bx w_k w_t.heap.size 32 (false) (.slice none 0 0) from Bx.below (Bx.new _ _ _ _) bw_k); have pz : wc4.heap.size ≤ w_t.heap.size := bb_t.size)); (try (have y0 := dz.c0; have y1 := dz.c1; have x0 := dz.f0; have x1 := dz.f1)))
            | (go_at_call 127; refine (K_t.out _ (by first | with_reducible exact Below.refl _ _ | with_reducible exact (Below.refl _ _).drew | with_reducible exact bb_t | with_reducible exact bb_k | with_reducible exact (Below.refl _ _).alloc (Nat.le_refl _) _ | with_reducible exact ((Below.refl _ _).alloc (Nat.le_refl _) _).drew | with_reducible exact bb_t.alloc bb_t.size _ | with_reducible exact bb_k.alloc bb_k.size _ | fail)).mono ?_; rintro e w_t ⟨v_t, rfl, o_t, lo_t, bw_t, bb_t⟩; obtain ⟨a_t, c_t, rfl⟩ := o_t.slice; (try first | with_reducible (have o_k := o_k.below bw_t) | with_reducible (have o_k := (o_k.alloc _).below bw_t)); (try with_reducible (have dz := Bx.below dz bw_t; have pz := pz)); (try first | with_reducible (have dz := (show Bx w_t wc4.heap.size 32 (false) (.slice none 0 0) from Bx.below (show Bx (World.drew (wc4.alloc (.cells #[.bool false, .slice none 0 0] 32))) wc4.heap.size 32 (false) (.slice none 0 0) from Bx.drew (Bx.new _ _ _ _)) bw_t); have pz : wc4.heap.size ≤ wc4.heap.size := Nat.le_refl _) | with_reducible (have dz := (show Bx w_t w_k.heap.size 32 (false) (.slice none 0 0) from Bx.below (Bx.new _ _ _ _) bw_t); have pz : wc4.heap.size ≤ w_k.heap.size := bb_k.size)); (try (have y0 := dz.c0; have y1 := dz.c1; have x0 := dz.f0; have x1 := dz.f1))))
        all_goals go_wp2_with fail
        all_goals go_meet
        all_goals first
          | exact ⟨_, _, _, _, rfl, Lib.hid dz.set, Lib.hid (own_bx2 o_k dz (by decide) _ _), Lib.hid pz, Lib.hid ((bb_k.setCell pz _).setCell pz _)⟩
          | exact ⟨_, _, _, _, rfl, Lib.hid (Bx.new _ _ _ _), Lib.hid (o_k.alloc _), Lib.hid bb_k.size, Lib.hid (bb_k.alloc bb_k.size _)⟩
      clear c0_x c1_x c2_x
      clear c0_y c1_y c2_y
      clear HS lt_x lt_y
      obtain ⟨p_br, a_br, n_br, c_br, rfl, hD, hO, hp, hB⟩ := hcut
      obtain ⟨wc5, hwc⟩ : ∃ x, x = wc := ⟨_, rfl⟩
      simp only [← hwc] at *
      clear hwc
      have bw9 := hB.out
      replace M_bl := Lib.hid (M_bl.out.below bw9)
      replace Q_qbl := Lib.hid (rowOf_below Q_qbl.out bw9)
      have M_br := hD
      have Q_qbr := Lib.hid hO.out.row
      clear hD hO hp K_t K_k
      replace B := Lib.hid (B.out.trans (bw9.mono B.out.size))
      replace BB := Lib.hid (BB.out.trans (bw9.mono BB.out.size))
      clear hB bw9
      have c0_bl := M_bl.out.c0
      have c1_bl := M_bl.out.c1
      have c0_br := M_br.out.c0
      have c1_br := M_br.out.c1
      go_wp2_with fail
      clear c0_bl c1_bl
      clear c0_br c1_br
      have hc9 := spec_addN (b0 && decide (0 < x * e)) _ (x * e) (b1 && decide (0 < y * d)) _ (y * d) wc5 Q_qbl.out Q_qbr.out (by have := L1.out; omega) (by have := L2.out; omega) (by rw [sgAdd_norm.2, HNN.out]; exact PN.out)
      rw [sgAdd_norm.1, sgAdd_norm.2, HNN.out, HE.out.1] at hc9
      refine (hc9).mono ?_
      rintro e w3 ⟨v_n, rfl, o_n, bw3⟩
      obtain ⟨a_n, c_n, rfl⟩ := o_n.slice
      replace M_bl := Lib.hid (M_bl.out.below bw3)
      replace Q_qbl := Lib.hid (rowOf_below Q_qbl.out bw3)
      replace M_br := Lib.hid (M_br.out.below bw3)
      replace Q_qbr := Lib.hid (rowOf_below Q_qbr.out bw3)
      have O_n := Lib.hid (o_n.base BB.out.size)
      clear o_n
      replace B := Lib.hid (B.out.trans (bw3.mono B.out.size))
      replace BB := Lib.hid (BB.out.trans (bw3.mono BB.out.size))
      clear bw3
      go_wp2_with fail
      obtain ⟨W5, hW5⟩ : ∃ X9, X9 = w3.alloc (.cells #[.bool (SS && decide (0 < NN)), .slice a_n (limI NN).length c_n] 32) := ⟨_, rfl⟩
      have M_s := Lib.hid (show Bx W5 w3.heap.size 32 (SS && decide (0 < NN)) (.slice a_n (limI NN).length c_n) by rw [hW5]; exact Bx.new _ _ _ _)
      replace O_n := Lib.hid (show OwnI W5 W0.heap.size _ _ by rw [hW5]; exact O_n.out.alloc _)
      have PS := Lib.hid (show W0.heap.size ≤ w3.heap.size from BB.out.size)
      replace BB := Lib.hid (show Below W0.heap.size W0 W5 by rw [hW5]; exact BB.out.alloc BB.out.size _)
      replace B := Lib.hid (show Below w.heap.size w W5 by rw [hW5]; exact B.out.alloc B.out.size _)
      rw [← hW5]
      clear hW5 M_bl M_br Q_qbl Q_qbr
      obtain ⟨ps, hps⟩ : ∃ p, w3.heap.size = p := ⟨_, rfl⟩
      rw [hps] at M_s PS ⊢
      clear hps
      have K_m := Lib.hid (fun (W : World) (hW : Below W5.heap.size W5 W) => pre_own (R := fun v => v) (spec_mulAny _ _ d e W (rowOf_below (rowOf_below RA_d.out B.out) hW) (rowOf_below (rowOf_below RA_e.out B.out) hW) (by have := B_d.out; omega) (by have := B_e.out; omega)) hW)
      have K_q := Lib.hid (fun (W : World) (hW : Below W5.heap.size W5 W) (vv : Value) (hr : RowOf iV W vv (limI (d * e))) => pre_rat ((by have h := spec_low (SS && decide (0 < NN)) _ NN vv (d * e) W (rowOf_below O_n.out.row hW) hr PN.out P3.out; rw [HE.out.2.1, HE.out.2.2] at h; exact h)) hW)
      have P9 := PS.out
      have SZ9 := SZ.out
      have c0_s := M_s.out.c0
      have c1_s := M_s.out.c1
      have c0_x := (D_x.out.below BB.out).c0
      have c1_x := (D_x.out.below BB.out).c1
      have c2_x := (D_x.out.below BB.out).c2
      have c0_y := (D_y.out.below BB.out).c0
      have c1_y := (D_y.out.below BB.out).c1
      have c2_y := (D_y.out.below BB.out).c2
      go_wp2_with fail
      have HS := Lib.hid (show ∀ W : World, Below W5.heap.size W5 W → (W.cell? ⟨ps, 0, none⟩ = some (.bool (SS && decide (0 < NN))) ∧ W.cell? ⟨ps, 1, none⟩ = some (.slice a_n (limI NN).length c_n) ∧ W.cell? ⟨w.heap.size, 0, none⟩ = some (.bool b0) ∧ W.cell? ⟨w.heap.size, 1, none⟩ = some (.slice a0 nx c0) ∧ W.cell? ⟨w.heap.size, 2, none⟩ = some (.slice e0 nd f0) ∧ W.cell? ⟨(w.heap.size + 1), 0, none⟩ = some (.bool b1) ∧ W.cell? ⟨(w.heap.size + 1), 1, none⟩ = some (.slice a1 ny c1) ∧ W.cell? ⟨(w.heap.size + 1), 2, none⟩ = some (.slice e1 ne f1)) from fun W hW => ⟨(hW.cell (p := ⟨ps, 0, none⟩) M_s.out.lt).trans c0_s, (hW.cell (p := ⟨ps, 1, none⟩) M_s.out.lt).trans c1_s, (hW.cell (p := ⟨w.heap.size, 0, none⟩) (D_x.out.below BB.out).lt).trans c0_x, (hW.cell (p := ⟨w.heap.size, 1, none⟩) (D_x.out.below BB.out).lt).trans c1_x, (hW.cell (p := ⟨w.heap.size, 2, none⟩) (D_x.out.below BB.out).lt).trans c2_x, (hW.cell (p := ⟨(w.heap.size + 1), 0, none⟩) (D_y.out.below BB.out).lt).trans c0_y, (hW.cell (p := ⟨(w.heap.size + 1), 1, none⟩) (D_y.out.below BB.out).lt).trans c1_y, (hW.cell (p := ⟨(w.heap.size + 1), 2, none⟩) (D_y.out.below BB.out).lt).trans c2_y⟩)
      have lt_s := M_s.out.lt
      have lt_x := (D_x.out.below BB.out).lt
      have lt_y := (D_y.out.below BB.out).lt
      have c0_r := (D_r.out.below BB.out).c0
      have c1_r := (D_r.out.below BB.out).c1
      have c2_r := (D_r.out.below BB.out).c2
      have f0_r := (D_r.out.below BB.out).f 0
      have f1_r := (D_r.out.below BB.out).f 1
      have f2_r := (D_r.out.below BB.out).f 2
      have HF := Lib.hid (show ∀ W : World, Below W5.heap.size W5 W → (W.cell? ⟨(w.heap.size + 1 + 1), 0, none⟩ = some (.bool false) ∧ W.cell? ⟨(w.heap.size + 1 + 1), 1, none⟩ = some (.slice none 0 0) ∧ W.cell? ⟨(w.heap.size + 1 + 1), 2, none⟩ = some (.slice none 0 0) ∧ W.frozen? ⟨(w.heap.size + 1 + 1), 0, none⟩ = false ∧ W.frozen? ⟨(w.heap.size + 1 + 1), 1, none⟩ = false ∧ W.frozen? ⟨(w.heap.size + 1 + 1), 2, none⟩ = false) from fun W hW => ⟨(hW.cell (p := ⟨(w.heap.size + 1 + 1), 0, none⟩) (D_r.out.below BB.out).lt).trans c0_r, (hW.cell (p := ⟨(w.heap.size + 1 + 1), 1, none⟩) (D_r.out.below BB.out).lt).trans c1_r, (hW.cell (p := ⟨(w.heap.size + 1 + 1), 2, none⟩) (D_r.out.below BB.out).lt).trans c2_r, (hW.frozen (p := ⟨(w.heap.size + 1 + 1), 0, none⟩) (D_r.out.below BB.out).lt).trans f0_r, (hW.frozen (p := ⟨(w.heap.size + 1 + 1), 1, none⟩) (D_r.out.below BB.out).lt).trans f1_r, (hW.frozen (p := ⟨(w.heap.size + 1 + 1), 2, none⟩) (D_r.out.below BB.out).lt).trans f2_r⟩)
      go_region_held3 (fun w' => w'.cell? ⟨ps, 0, none⟩ = some (.bool (SS && decide (0 < NN))) ∧ w'.cell? ⟨ps, 1, none⟩ = some (.slice a_n (limI NN).length c_n) ∧ w'.cell? ⟨w.heap.size, 0, none⟩ = some (.bool b0) ∧ w'.cell? ⟨w.heap.size, 1, none⟩ = some (.slice a0 nx c0) ∧ w'.cell? ⟨w.heap.size, 2, none⟩ = some (.slice e0 nd f0) ∧ w'.cell? ⟨(w.heap.size + 1), 0, none⟩ = some (.bool b1) ∧ w'.cell? ⟨(w.heap.size + 1), 1, none⟩ = some (.slice a1 ny c1) ∧ w'.cell? ⟨(w.heap.size + 1), 2, none⟩ = some (.slice e1 ne f1)) (first | exact HS.out _ (by first | with_reducible exact Below.refl _ _ | with_reducible exact (Below.refl _ _).drew | with_reducible exact bb_m | with_reducible exact bb_q | fail) | exact ⟨(cell_far3 (show ps ≠ (w.heap.size + 1 + 1) from by omega) _ _ _).trans ((HS.out _ (by first | with_reducible exact Below.refl _ _ | with_reducible exact (Below.refl _ _).drew | with_reducible exact bb_m | with_reducible exact bb_q | fail)).1), (cell_far3 (show ps ≠ (w.heap.size + 1 + 1) from by omega) _ _ _).trans ((HS.out _ (by first | with_reducible exact Below.refl _ _ | with_reducible exact (Below.refl _ _).drew | with_reducible exact bb_m | with_reducible exact bb_q | fail)).2.1), (cell_far3 (show w.heap.size ≠ (w.heap.size + 1 + 1) from by omega) _ _ _).trans ((HS.out _ (by first | with_reducible exact Below.refl _ _ | with_reducible exact (Below.refl _ _).drew | with_reducible exact bb_m | with_reducible exact bb_q | fail)).2.2.1), (cell_far3 (show w.heap.size ≠ (w.heap.size + 1 + 1) from by omega) _ _ _).trans ((HS.out _ (by first | with_reducible exact Below.refl _ _ | with_reducible exact (Below.refl _ _).drew | with_reducible exact bb_m | with_reducible exact bb_q | fail)).2.2.2.1), (cell_far3 (show w.heap.size ≠ (w.heap.size + 1 + 1) from by omega) _ _ _).trans ((HS.out _ (by first | with_reducible exact Below.refl _ _ | with_reducible exact (Below.refl _ _).drew | with_reducible exact bb_m | with_reducible exact bb_q | fail)).2.2.2.2.1), (cell_far3 (show (w.heap.size + 1) ≠ (w.heap.size + 1 + 1) from by omega) _ _ _).trans ((HS.out _ (by first | with_reducible exact Below.refl _ _ | with_reducible exact (Below.refl _ _).drew | with_reducible exact bb_m | with_reducible exact bb_q | fail)).2.2.2.2.2.1), (cell_far3 (show (w.heap.size + 1) ≠ (w.heap.size + 1 + 1) from by omega) _ _ _).trans ((HS.out _ (by first | with_reducible exact Below.refl _ _ | with_reducible exact (Below.refl _ _).drew | with_reducible exact bb_m | with_reducible exact bb_q | fail)).2.2.2.2.2.2.1), (cell_far3 (show (w.heap.size + 1) ≠ (w.heap.size + 1 + 1) from by omega) _ _ _).trans ((HS.out _ (by first | with_reducible exact Below.refl _ _ | with_reducible exact (Below.refl _ _).drew | with_reducible exact bb_m | with_reducible exact bb_q | fail)).2.2.2.2.2.2.2)⟩)
        (first
          | (go_at_call 126; refine (K_q.out _ (by first | with_reducible exact Below.refl _ _ | with_reducible exact (Below.refl _ _).drew | with_reducible exact bb_m | with_reducible exact bb_q | fail) _ (by first | with_reducible exact o_m.row)).mono ?_; rintro e w_q ⟨v_q, d_q, rfl, u_q, lo_q, bw_q, bb_q⟩; obtain ⟨a_q, c_q, e_q, f_q, rfl, rfl⟩ := u_q.slices; (try first | with_reducible (have o_m := o_m.below bw_q)); obtain ⟨s0, s1, s2, t0, t1, t2⟩ := HF.out _ bb_q)
          | (go_at_call 127; refine (K_m.out _ (by first | with_reducible exact Below.refl _ _ | with_reducible exact (Below.refl _ _).drew | with_reducible exact bb_m | with_reducible exact bb_q | fail)).mono ?_; rintro e w_m ⟨v_m, rfl, o_m, lo_m, bw_m, bb_m⟩; obtain ⟨a_m, c_m, rfl⟩ := o_m.slice; (try first | with_reducible (have u_q := u_q.below bw_m)); obtain ⟨s0, s1, s2, t0, t1, t2⟩ := HF.out _ bb_m))
      all_goals (have D9 := D_r.out.below (BB.out.trans (bb_q.mono BB.out.size)); obtain ⟨e1, e2⟩ := rat_end (b' := mkB (SS && decide (0 < NN)) XX DD) (B.out.trans (bb_q.mono B.out.size)) D9 (OwnR.base (B' := W0.heap.size) u_q BB.out.size) (by decide) (by have := SZ.out; omega) (by omega) (.slice a_q (mkZ XX DD).length c_q) (.slice e_q (mkD XX DD).length f_q); have D8 := Rx.set3 (b' := mkB (SS && decide (0 < NN)) XX DD) (v' := .slice a_q (mkZ XX DD).length c_q) (d' := .slice e_q (mkD XX DD).length f_q) D9; have hc0 := D8.c0; have hc1 := D8.c1; have hc2 := D8.c2; go_wp2; exact bodyPost_ret (v := .agg #[.bool (mkB (SS && decide (0 < NN)) XX DD), .slice a_q (mkZ XX DD).length c_q, .slice e_q (mkD XX DD).length f_q]) (by simp [results, Tryz.results178, go_sem, hc0, hc1, hc2]) rfl ⟨_, _, rfl, e1, e2⟩)
  · obtain ⟨rfl, rfl⟩ := h11
    clear hd he hx hy P1 P2 P3 L1 L2 B_d B_e
    simp only [Nat.mul_one] at ESG PN ⊢
    have HXD : Hid (sgAddB b0 x b1 y = sgAddB b0 x b1 y) := Lib.hid rfl
    rw [← ESG.out]
    have H0 := Lib.hid h0
    have H1 := Lib.hid h1
    obtain ⟨⟨a0, c0, rfl, z1, z2, z3⟩, ⟨e0, f0, rfl, z4, z5, z6⟩⟩ := h0
    clear z1 z2 z3 z4 z5 z6
    obtain ⟨⟨a1, c1, rfl, z1, z2, z3⟩, ⟨e1, f1, rfl, z4, z5, z6⟩⟩ := h1
    clear z1 z2 z3 z4 z5 z6
    rw [show (limI 1).length = 1 by rw [limI_1]; rfl] at H0 H1
    try rw [show (limI 1).length = 1 by rw [limI_1]; rfl]
    obtain ⟨nx, hnx⟩ : ∃ n, (limI x).length = n := ⟨_, rfl⟩
    rw [hnx] at H0
    try rw [hnx]
    clear hnx
    obtain ⟨ny, hny⟩ : ∃ n, (limI y).length = n := ⟨_, rfl⟩
    rw [hny] at H1
    try rw [hny]
    clear hny
    obtain ⟨NN, hNN⟩ : ∃ s, sgAddN b0 x b1 y = s := ⟨_, rfl⟩
    obtain ⟨SS, hSS⟩ : ∃ s, sgAddB b0 x b1 y = s := ⟨_, rfl⟩
    have HNN := Lib.hid hNN
    have HSS := Lib.hid hSS
    rw [hNN] at PN ⊢
    rw [hSS]
    clear hNN hSS ESG HXD
    obtain ⟨XX, hXX⟩ : ∃ s, lowX NN 1 = s := ⟨_, rfl⟩
    obtain ⟨DD, hDD⟩ : ∃ s, lowD NN 1 = s := ⟨_, rfl⟩
    have HXX := Lib.hid hXX
    have HDD := Lib.hid hDD
    rw [hXX, hDD]
    clear hXX hDD
    go_enter Tryz.func178, Tryz.ntmps178
    go_wp2_with fail
    obtain ⟨W0, hW0⟩ : ∃ x, x = (((w.alloc (.cells #[.bool b0, .slice a0 nx c0, .slice e0 1 f0] 34)).alloc (.cells #[.bool b1, .slice a1 ny c1, .slice e1 1 f1] 34)).alloc (.cells #[.bool false, .slice none 0 0, .slice none 0 0] 34)) := ⟨_, rfl⟩
    have B := Lib.hid (show Below w.heap.size w W0 by rw [hW0]; exact ((((Below.refl _ _).alloc (Nat.le_refl _) _).alloc (by simp) _).alloc (by simp; omega) _))
    have D_x := Lib.hid (rx_at (show Rx W0 _ 34 (b0) (.slice a0 nx c0) (.slice e0 1 f0) by rw [hW0]; exact ((Rx.new _ _ _ _ _).alloc _).alloc _) (show w.heap.size = _ by simp))
    have D_y := Lib.hid (rx_at (show Rx W0 _ 34 (b1) (.slice a1 ny c1) (.slice e1 1 f1) by rw [hW0]; exact (Rx.new _ _ _ _ _).alloc _) (show (w.heap.size + 1) = _ by simp))
    have D_r := Lib.hid (rx_at (show Rx W0 _ 34 (false) (.slice none 0 0) (.slice none 0 0) by rw [hW0]; exact Rx.new _ _ _ _ _) (show (w.heap.size + 1 + 1) = _ by simp))
    have SZ := Lib.hid (show W0.heap.size = w.heap.size + 1 + 1 + 1 by rw [hW0]; simp)
    rw [← hW0]
    clear hW0
    have BB := Lib.hid (Below.refl W0.heap.size W0)
    refine (spec_isOne _ 1 _ (rowOf_below H0.out.2 B.out)).mono ?_
    rw [decide_eq_true rfl]
    rintro r9 w9 ⟨rfl, h9⟩
    replace h9 := h9.symm
    subst h9
    have c0_y := (D_y.out.below BB.out).c0
    have c1_y := (D_y.out.below BB.out).c1
    have c2_y := (D_y.out.below BB.out).c2
    go_wp2_with fail
    clear c0_y c1_y c2_y
    refine (spec_isOne _ 1 _ (rowOf_below H1.out.2 B.out)).mono ?_
    rw [decide_eq_true rfl]
    rintro r9 w9 ⟨rfl, h9⟩
    replace h9 := h9.symm
    subst h9
    have c0_x := (D_x.out.below BB.out).c0
    have c1_x := (D_x.out.below BB.out).c1
    have c2_x := (D_x.out.below BB.out).c2
    have c0_y := (D_y.out.below BB.out).c0
    have c1_y := (D_y.out.below BB.out).c1
    have c2_y := (D_y.out.below BB.out).c2
    go_wp2_with fail
    clear c0_x c1_x c2_x
    clear c0_y c1_y c2_y
    have hc9 := spec_addN b0 _ x b1 _ y W0 (rowOf_below H0.out.1 B.out) (rowOf_below H1.out.1 B.out) (by have := B_x.out; omega) (by have := B_y.out; omega) (by rw [HNN.out]; exact PN.out)
    rw [HNN.out, HSS.out] at hc9
    refine (hc9).mono ?_
    rintro e w1 ⟨v_n, rfl, o_n, bw1⟩
    obtain ⟨a_n, c_n, rfl⟩ := o_n.slice
    have O_n := Lib.hid (o_n.base BB.out.size)
    clear o_n
    replace B := Lib.hid (B.out.trans (bw1.mono B.out.size))
    replace BB := Lib.hid (BB.out.trans (bw1.mono BB.out.size))
    clear bw1
    have RL : ∀ (W : World), Below w1.heap.size w1 W → RowOf iV W (.slice a_n (limI NN).length c_n) (limI NN) := fun W hW => rowOf_below O_n.out.row hW
    have RLH := Lib.hid RL
    clear RL
    have M_s := Lib.hid (Bx.new w1 32 (SS && decide (0 < NN)) (.slice a_n (limI NN).length c_n))
    go_wp2_with fail
    obtain ⟨W5, hW5⟩ : ∃ X9, X9 = (w1.alloc (.cells #[.bool (SS && decide (0 < NN)), .slice a_n (limI NN).length c_n] 32)).alloc (.cells #[.int .i64 1] 3) := ⟨_, rfl⟩
    have bw5 : Below w1.heap.size w1 W5 := by rw [hW5]; exact ((Below.refl _ _).alloc (Nat.le_refl _) _).alloc (by simp) _
    have RN := Lib.hid (RLH.out _ bw5)
    have R1 := Lib.hid (show RowOf iV W5 (.slice (some ⟨w1.heap.size + 1, 0, none⟩) 1 1) (limI 1) by rw [hW5, limI_1]; have h := (OwnI.lit1 (w1.alloc (.cells #[.bool (SS && decide (0 < NN)), .slice a_n (limI NN).length c_n] 32)) _ 1 (Nat.le_refl _)).row; simp only [World.size_alloc] at h; exact h)
    rw [← hW5]
    clear hW5 M_s RLH
    replace O_n := Lib.hid (O_n.out.below bw5)
    replace B := Lib.hid (B.out.trans (bw5.mono B.out.size))
    replace BB := Lib.hid (BB.out.trans (bw5.mono BB.out.size))
    clear bw5
    have hc9 := spec_low (SS && decide (0 < NN)) _ NN _ 1 _ RN.out R1.out PN.out (by exact Nat.lt_of_lt_of_le (by decide : 1 < pw 1) (pw_mono (by omega)))
    rw [HXX.out, HDD.out] at hc9
    refine (hc9).mono ?_
    rintro e w2 ⟨v_q, d_q, rfl, u_q, bw2⟩
    obtain ⟨a_q, c_q, e_q, f_q, rfl, rfl⟩ := u_q.slices
    have hb5 := BB.out.size
    replace O_n := Lib.hid (O_n.out.below bw2)
    replace B := Lib.hid (B.out.trans (bw2.mono B.out.size))
    replace BB := Lib.hid (BB.out.trans (bw2.mono BB.out.size))
    clear bw2
    have c0_r := (D_r.out.below BB.out).c0
    have c1_r := (D_r.out.below BB.out).c1
    have c2_r := (D_r.out.below BB.out).c2
    have f0_r := (D_r.out.below BB.out).f 0
    have f1_r := (D_r.out.below BB.out).f 1
    have f2_r := (D_r.out.below BB.out).f 2
    have D9 := D_r.out.below BB.out
    obtain ⟨e1, e2⟩ := rat_end (b' := mkB (SS && decide (0 < NN)) XX DD) B.out D9 (OwnR.base (B' := W0.heap.size) u_q hb5) (by decide) (by have := SZ.out; omega) (by omega) (.slice a_q (mkZ XX DD).length c_q) (.slice e_q (mkD XX DD).length f_q)
    have D8 := Rx.set3 (b' := mkB (SS && decide (0 < NN)) XX DD) (v' := .slice a_q (mkZ XX DD).length c_q) (d' := .slice e_q (mkD XX DD).length f_q) D9
    have hc0 := D8.c0; have hc1 := D8.c1; have hc2 := D8.c2
    go_wp2
    exact bodyPost_ret (v := .agg #[.bool (mkB (SS && decide (0 < NN)) XX DD), .slice a_q (mkZ XX DD).length c_q, .slice e_q (mkD XX DD).length f_q]) (by simp [results, Tryz.results178, go_sem, hc0, hc1, hc2]) rfl ⟨_, _, rfl, e1, e2⟩

set_option maxHeartbeats 4000000 in
theorem spec_mulA (b0 : Bool) (v0 : Value) (x : Nat) (d0 : Value) (d : Nat) (b1 : Bool) (v1 : Value) (y : Nat) (d1 : Value) (e : Nat) (w : World) (h0 : RowR w v0 (limI x) d0 (limI d)) (h1 : RowR w v1 (limI y) d1 (limI e))
    (hx : x < pw 24) (hd : d < pw 24) (hy : y < pw 24) (he : e < pw 24) :
    Calls Tryz.prog 83 #[.agg #[.bool b0, v0, d0], .agg #[.bool b1, v1, d1]] w fun r w' => ∃ v dd, r = .returned (.agg #[.bool (mkB (!(b0 == b1)) (lowX (x * y) (d * e)) (lowD (x * y) (d * e))), v, dd]) ∧ OwnR w' w.heap.size v (mkZ (lowX (x * y) (d * e)) (lowD (x * y) (d * e))) dd (mkD (lowX (x * y) (d * e)) (lowD (x * y) (d * e))) ∧ Below w.heap.size w w' := by
  have P1 := Lib.hid (Nat.lt_trans (mul24 hx hy) (pw_lt (by omega : 48 < 60)))
  have P2 := Lib.hid (Nat.lt_trans (mul24 hd he) (pw_lt (by omega : 48 < 60)))
  have B_x := Lib.hid ((nlen_le_iff _ _).2 hx)
  have B_d := Lib.hid ((nlen_le_iff _ _).2 hd)
  have B_y := Lib.hid ((nlen_le_iff _ _).2 hy)
  have B_e := Lib.hid ((nlen_le_iff _ _).2 he)
  clear hx hd hy he
  have RA_x := Lib.hid h0.1
  have RA_d := Lib.hid h0.2
  obtain ⟨⟨a0, c0, rfl, z1, z2, z3⟩, ⟨e0, f0, rfl, z4, z5, z6⟩⟩ := h0
  clear z1 z2 z3 z4 z5 z6
  have RA_y := Lib.hid h1.1
  have RA_e := Lib.hid h1.2
  obtain ⟨⟨a1, c1, rfl, z1, z2, z3⟩, ⟨e1, f1, rfl, z4, z5, z6⟩⟩ := h1
  clear z1 z2 z3 z4 z5 z6
  have L_x := Lib.hid (limI_length x)
  rw [limI_length] at RA_x
  try rw [limI_length x]
  obtain ⟨nx, hnx⟩ : ∃ n, nlen x = n := ⟨_, rfl⟩
  rw [hnx] at RA_x L_x
  try rw [hnx]
  have N_x := Lib.hid hnx
  clear hnx
  have L_d := Lib.hid (limI_length d)
  rw [limI_length] at RA_d
  try rw [limI_length d]
  obtain ⟨nd, hnd⟩ : ∃ n, nlen d = n := ⟨_, rfl⟩
  rw [hnd] at RA_d L_d
  try rw [hnd]
  have N_d := Lib.hid hnd
  clear hnd
  have L_y := Lib.hid (limI_length y)
  rw [limI_length] at RA_y
  try rw [limI_length y]
  obtain ⟨ny, hny⟩ : ∃ n, nlen y = n := ⟨_, rfl⟩
  rw [hny] at RA_y L_y
  try rw [hny]
  have N_y := Lib.hid hny
  clear hny
  have L_e := Lib.hid (limI_length e)
  rw [limI_length] at RA_e
  try rw [limI_length e]
  obtain ⟨ne, hne⟩ : ∃ n, nlen e = n := ⟨_, rfl⟩
  rw [hne] at RA_e L_e
  try rw [hne]
  have N_e := Lib.hid hne
  clear hne
  obtain ⟨SS, hSS⟩ : ∃ s, (!(b0 == b1)) = s := ⟨_, rfl⟩
  obtain ⟨XX, hXX⟩ : ∃ s, (lowX (x * y) (d * e)) = s := ⟨_, rfl⟩
  obtain ⟨DD, hDD⟩ : ∃ s, (lowD (x * y) (d * e)) = s := ⟨_, rfl⟩
  rw [hSS, hXX, hDD]
  have HE := Lib.hid (And.intro hXX hDD)
  clear hXX hDD
  go_enter Tryz.func83, Tryz.ntmps83
  go_wp2_with fail
  obtain ⟨W0, hW0⟩ : ∃ x, x = (((w.alloc (.cells #[.bool b0, .slice a0 nx c0, .slice e0 nd f0] 34)).alloc (.cells #[.bool b1, .slice a1 ny c1, .slice e1 ne f1] 34)).alloc (.cells #[.bool false, .slice none 0 0, .slice none 0 0] 34)) := ⟨_, rfl⟩
  have B := Lib.hid (show Below w.heap.size w W0 by rw [hW0]; exact ((((Below.refl _ _).alloc (Nat.le_refl _) _).alloc (by simp) _).alloc (by simp; omega) _))
  have D_x := Lib.hid (rx_at (show Rx W0 _ 34 (b0) (.slice a0 nx c0) (.slice e0 nd f0) by rw [hW0]; exact ((Rx.new _ _ _ _ _).alloc _).alloc _) (show w.heap.size = _ by simp))
  have D_y := Lib.hid (rx_at (show Rx W0 _ 34 (b1) (.slice a1 ny c1) (.slice e1 ne f1) by rw [hW0]; exact (Rx.new _ _ _ _ _).alloc _) (show (w.heap.size + 1) = _ by simp))
  have D_r := Lib.hid (rx_at (show Rx W0 _ 34 (false) (.slice none 0 0) (.slice none 0 0) by rw [hW0]; exact Rx.new _ _ _ _ _) (show (w.heap.size + 1 + 1) = _ by simp))
  have SZ := Lib.hid (show W0.heap.size = w.heap.size + 1 + 1 + 1 by rw [hW0]; simp)
  rw [← hW0]
  clear hW0
  have BB := Lib.hid (Below.refl W0.heap.size W0)
  have K_a := Lib.hid (fun (W : World) (hW : Below W0.heap.size W0 W) => pre_own (R := fun v => v) (spec_mulAny _ _ x y W (rowOf_below (rowOf_below RA_x.out B.out) hW) (rowOf_below (rowOf_below RA_y.out B.out) hW) (by have := B_x.out; omega) (by have := B_y.out; omega)) hW)
  have K_b := Lib.hid (fun (W : World) (hW : Below W0.heap.size W0 W) => pre_own (R := fun v => v) (spec_mulAny _ _ d e W (rowOf_below (rowOf_below RA_d.out B.out) hW) (rowOf_below (rowOf_below RA_e.out B.out) hW) (by have := B_d.out; omega) (by have := B_e.out; omega)) hW)
  have K_q := Lib.hid (fun (W : World) (hW : Below W0.heap.size W0 W) (vv uu : Value) (hr : RowOf iV W vv (limI (x * y))) (hs : RowOf iV W uu (limI (d * e))) => pre_rat ((by have h := spec_low SS vv (x * y) uu (d * e) W hr hs P1.out P2.out; rw [HE.out.1, HE.out.2] at h; exact h)) hW)
  have c0_x := (D_x.out.below BB.out).c0
  have c1_x := (D_x.out.below BB.out).c1
  have c2_x := (D_x.out.below BB.out).c2
  have c0_y := (D_y.out.below BB.out).c0
  have c1_y := (D_y.out.below BB.out).c1
  have c2_y := (D_y.out.below BB.out).c2
  have HS := Lib.hid (show ∀ W : World, Below W0.heap.size W0 W → (W.cell? ⟨w.heap.size, 0, none⟩ = some (.bool b0) ∧ W.cell? ⟨w.heap.size, 1, none⟩ = some (.slice a0 nx c0) ∧ W.cell? ⟨w.heap.size, 2, none⟩ = some (.slice e0 nd f0) ∧ W.cell? ⟨(w.heap.size + 1), 0, none⟩ = some (.bool b1) ∧ W.cell? ⟨(w.heap.size + 1), 1, none⟩ = some (.slice a1 ny c1) ∧ W.cell? ⟨(w.heap.size + 1), 2, none⟩ = some (.slice e1 ne f1)) from fun W hW => ⟨(hW.cell (p := ⟨w.heap.size, 0, none⟩) (D_x.out.below BB.out).lt).trans c0_x, (hW.cell (p := ⟨w.heap.size, 1, none⟩) (D_x.out.below BB.out).lt).trans c1_x, (hW.cell (p := ⟨w.heap.size, 2, none⟩) (D_x.out.below BB.out).lt).trans c2_x, (hW.cell (p := ⟨(w.heap.size + 1), 0, none⟩) (D_y.out.below BB.out).lt).trans c0_y, (hW.cell (p := ⟨(w.heap.size + 1), 1, none⟩) (D_y.out.below BB.out).lt).trans c1_y, (hW.cell (p := ⟨(w.heap.size + 1), 2, none⟩) (D_y.out.below BB.out).lt).trans c2_y⟩)
  have lt_x := (D_x.out.below BB.out).lt
  have lt_y := (D_y.out.below BB.out).lt
  have c0_r := (D_r.out.below BB.out).c0
  have c1_r := (D_r.out.below BB.out).c1
  have c2_r := (D_r.out.below BB.out).c2
  have f0_r := (D_r.out.below BB.out).f 0
  have f1_r := (D_r.out.below BB.out).f 1
  have f2_r := (D_r.out.below BB.out).f 2
  have HF := Lib.hid (show ∀ W : World, Below W0.heap.size W0 W → (W.cell? ⟨(w.heap.size + 1 + 1), 0, none⟩ = some (.bool false) ∧ W.cell? ⟨(w.heap.size + 1 + 1), 1, none⟩ = some (.slice none 0 0) ∧ W.cell? ⟨(w.heap.size + 1 + 1), 2, none⟩ = some (.slice none 0 0) ∧ W.frozen? ⟨(w.heap.size + 1 + 1), 0, none⟩ = false ∧ W.frozen? ⟨(w.heap.size + 1 + 1), 1, none⟩ = false ∧ W.frozen? ⟨(w.heap.size + 1 + 1), 2, none⟩ = false) from fun W hW => ⟨(hW.cell (p := ⟨(w.heap.size + 1 + 1), 0, none⟩) (D_r.out.below BB.out).lt).trans c0_r, (hW.cell (p := ⟨(w.heap.size + 1 + 1), 1, none⟩) (D_r.out.below BB.out).lt).trans c1_r, (hW.cell (p := ⟨(w.heap.size + 1 + 1), 2, none⟩) (D_r.out.below BB.out).lt).trans c2_r, (hW.frozen (p := ⟨(w.heap.size + 1 + 1), 0, none⟩) (D_r.out.below BB.out).lt).trans f0_r, (hW.frozen (p := ⟨(w.heap.size + 1 + 1), 1, none⟩) (D_r.out.below BB.out).lt).trans f1_r, (hW.frozen (p := ⟨(w.heap.size + 1 + 1), 2, none⟩) (D_r.out.below BB.out).lt).trans f2_r⟩)
  go_region_held3 (fun w' => w'.cell? ⟨w.heap.size, 0, none⟩ = some (.bool b0) ∧ w'.cell? ⟨w.heap.size, 1, none⟩ = some (.slice a0 nx c0) ∧ w'.cell? ⟨w.heap.size, 2, none⟩ = some (.slice e0 nd f0) ∧ w'.cell? ⟨(w.heap.size + 1), 0, none⟩ = some (.bool b1) ∧ w'.cell? ⟨(w.heap.size + 1), 1, none⟩ = some (.slice a1 ny c1) ∧ w'.cell? ⟨(w.heap.size + 1), 2, none⟩ = some (.slice e1 ne f1)) (first | exact HS.out _ (by first | with_reducible exact Below.refl _ _ | with_reducible exact (Below.refl _ _).drew | with_reducible exact bb_a | with_reducible exact bb_b | with_reducible exact bb_q | fail) | exact ⟨(cell_far3 (show w.heap.size ≠ (w.heap.size + 1 + 1) from by omega) _ _ _).trans ((HS.out _ (by first | with_reducible exact Below.refl _ _ | with_reducible exact (Below.refl _ _).drew | with_reducible exact bb_a | with_reducible exact bb_b | with_reducible exact bb_q | fail)).1), (cell_far3 (show w.heap.size ≠ (w.heap.size + 1 + 1) from by omega) _ _ _).trans ((HS.out _ (by first | with_reducible exact Below.refl _ _ | with_reducible exact (Below.refl _ _).drew | with_reducible exact bb_a | with_reducible exact bb_b | with_reducible exact bb_q | fail)).2.1), (cell_far3 (show w.heap.size ≠ (w.heap.size + 1 + 1) from by omega) _ _ _).trans ((HS.out _ (by first | with_reducible exact Below.refl _ _ | with_reducible exact (Below.refl _ _).drew | with_reducible exact bb_a | with_reducible exact bb_b | with_reducible exact bb_q | fail)).2.2.1), (cell_far3 (show (w.heap.size + 1) ≠ (w.heap.size + 1 + 1) from by omega) _ _ _).trans ((HS.out _ (by first | with_reducible exact Below.refl _ _ | with_reducible exact (Below.refl _ _).drew | with_reducible exact bb_a | with_reducible exact bb_b | with_reducible exact bb_q | fail)).2.2.2.1), (cell_far3 (show (w.heap.size + 1) ≠ (w.heap.size + 1 + 1) from by omega) _ _ _).trans ((HS.out _ (by first | with_reducible exact Below.refl _ _ | with_reducible exact (Below.refl _ _).drew | with_reducible exact bb_a | with_reducible exact bb_b | with_reducible exact bb_q | fail)).2.2.2.2.1), (cell_far3 (show (w.heap.size + 1) ≠ (w.heap.size + 1 + 1) from by omega) _ _ _).trans ((HS.out _ (by first | with_reducible exact Below.refl _ _ | with_reducible exact (Below.refl _ _).drew | with_reducible exact bb_a | with_reducible exact bb_b | with_reducible exact bb_q | fail)).2.2.2.2.2)⟩)
    (first
      | (go_at_call 126; refine (K_q.out _ (by first | with_reducible exact Below.refl _ _ | with_reducible exact (Below.refl _ _).drew | with_reducible exact bb_a | with_reducible exact bb_b | with_reducible exact bb_q | fail) _ _ (by first | with_reducible exact o_a.row) (by first | with_reducible exact o_b.row)).mono ?_; rintro e w_q ⟨v_q, d_q, rfl, u_q, lo_q, bw_q, bb_q⟩; obtain ⟨a_q, c_q, e_q, f_q, rfl, rfl⟩ := u_q.slices; (try first | with_reducible (have o_a := o_a.below bw_q)); (try first | with_reducible (have o_b := o_b.below bw_q)); obtain ⟨s0, s1, s2, t0, t1, t2⟩ := HF.out _ bb_q)
      | (go_at_call 127; with_reducible refine (K_b.out _ (by first | with_reducible exact Below.refl _ _ | with_reducible exact (Below.refl _ _).drew | with_reducible exact bb_a | with_reducible exact bb_b | with_reducible exact bb_q | fail)).mono ?_; rintro e w_b ⟨v_b, rfl, o_b, lo_b, bw_b, bb_b⟩; obtain ⟨a_b, c_b, rfl⟩ := o_b.slice; (try first | with_reducible (have o_a := o_a.below bw_b)); (try first | with_reducible (have u_q := u_q.below bw_b)); obtain ⟨s0, s1, s2, t0, t1, t2⟩ := HF.out _ bb_b)
      | (go_at_call 127; with_reducible refine (K_a.out _ (by first | with_reducible exact Below.refl _ _ | with_reducible exact (Below.refl _ _).drew | with_reducible exact bb_a | with_reducible exact bb_b | with_reducible exact bb_q | fail)).mono ?_; rintro e w_a ⟨v_a, rfl, o_a, lo_a, bw_a, bb_a⟩; obtain ⟨a_a, c_a, rfl⟩ := o_a.slice; (try first | with_reducible (have o_b := o_b.below bw_a)); (try first | with_reducible (have u_q := u_q.below bw_a)); obtain ⟨s0, s1, s2, t0, t1, t2⟩ := HF.out _ bb_a))
  all_goals (have D9 := D_r.out.below (BB.out.trans (bb_q.mono BB.out.size)); obtain ⟨e1, e2⟩ := rat_end (b' := mkB SS XX DD) (B.out.trans (bb_q.mono B.out.size)) D9 (OwnR.base (B' := W0.heap.size) u_q BB.out.size) (by decide) (by have := SZ.out; omega) (by omega) (.slice a_q (mkZ XX DD).length c_q) (.slice e_q (mkD XX DD).length f_q); have D8 := Rx.set3 (b' := mkB SS XX DD) (v' := .slice a_q (mkZ XX DD).length c_q) (d' := .slice e_q (mkD XX DD).length f_q) D9; have hc0 := D8.c0; have hc1 := D8.c1; have hc2 := D8.c2; go_wp2; exact bodyPost_ret (v := .agg #[.bool (mkB SS XX DD), .slice a_q (mkZ XX DD).length c_q, .slice e_q (mkD XX DD).length f_q]) (by simp [results, Tryz.results83, go_sem, hc0, hc1, hc2]) rfl ⟨_, _, rfl, e1, e2⟩)

end Go.Proofs.YtlepgkkpopjgoaaGreat
