/- l06At over a vector of the call's own, and l07Clear of the model. -/
import Derived.Test.YtlepgkkpopjgoaaGreatZElMem
import Derived.Test.YtlepgkkpopjgoaaGreatZElDiv
import Derived.Test.YtlepgkkpopjgoaaGreatZMatx
import Derived.Deep.RegionHeld3
namespace Go.Proofs.YtlepgkkpopjgoaaGreat
open Go.RowKit Go.WideShapes Go.ChangeShapes
set_option linter.unusedVariables false
set_option linter.unusedSimpArgs false
set_option maxRecDepth 100000 in
set_option maxHeartbeats 1000000 in
theorem spec_atC (r : Int) (C i k n b o cap : Nat) (bb : Bool) (a1 : Option Addr) (n1 r1 : Nat) (a2 : Option Addr) (n2 r2 : Nat) (w : World) (hi : i * C + k < n) (hn : n ≤ 576)
    (k0 : w.cell? ⟨b, o + (i * C + k) * 3, none⟩ = some (.bool bb)) (k1 : w.cell? ⟨b, o + (i * C + k) * 3 + 1, none⟩ = some (.slice a1 n1 r1)) (k2 : w.cell? ⟨b, o + (i * C + k) * 3 + 2, none⟩ = some (.slice a2 n2 r2)) :
    Calls Tryz.prog 96 #[.agg #[.int .i64 r, .int .i64 (C : Int), .slice (some ⟨b, o, none⟩) n cap], .int .i64 (i : Int), .int .i64 (k : Int)] w fun e w' => e = .returned (.agg #[.bool bb, .slice a1 n1 r1, .slice a2 n2 r2]) ∧ Below w.heap.size w w' := by
  obtain ⟨l, hl⟩ : ∃ l, i * C = l := ⟨_, rfl⟩
  have p1 : (i : Int) * (C : Int) = (l : Int) := by rw [← hl, Int.natCast_mul]
  have p2 : (l : Int) + (k : Int) = ((l + k : Nat) : Int) := by omega
  rw [hl] at k0 k1 k2 hi
  clear hl
  obtain ⟨j, hj⟩ : ∃ j, l + k = j := ⟨_, rfl⟩
  rw [hj] at k0 k1 k2 hi p2
  clear hj
  have BA := Lib.hid (((Below.refl w.heap.size w).alloc (Nat.le_refl _) (.cells #[.int .i64 r, .int .i64 (C : Int), .slice (some ⟨b, o, none⟩) n cap] 25)).alloc (by simp) (.cells #[.bool false, .slice none 0 0, .slice none 0 0] 34))
  obtain ⟨W0, hW0⟩ : ∃ x, x = (w.alloc (.cells #[.int .i64 r, .int .i64 (C : Int), .slice (some ⟨b, o, none⟩) n cap] 25)).alloc (.cells #[.bool false, .slice none 0 0, .slice none 0 0] 34) := ⟨_, rfl⟩
  have D := Lib.hid (show B3 W0 w.heap.size 25 (.int .i64 r) (.int .i64 (C : Int)) (.slice (some ⟨b, o, none⟩) n cap) by rw [hW0]; exact (B3.new _ _ _ _ _).alloc _)
  have Z := Lib.hid (show B3 W0 (w.heap.size + 1) 34 (.bool false) (.slice none 0 0) (.slice none 0 0) by rw [hW0]; exact b3_at (B3.new _ _ _ _ _) (by simp))
  rw [← hW0] at BA
  have HW := Lib.hid hW0
  clear hW0
  have c0 := (BA.out.cell (World.block_lt_of_cell? w _ k0)).trans k0
  have c1 := (BA.out.cell (World.block_lt_of_cell? w _ k1)).trans k1
  have c2 := (BA.out.cell (World.block_lt_of_cell? w _ k2)).trans k2
  clear k0 k1 k2
  have e2 := Lib.hid (((BA.out.setCell (p := ⟨w.heap.size + 1, 0, none⟩) (by simp) (.bool bb)).setCell (p := ⟨w.heap.size + 1, 1, none⟩) (by simp) (.slice a1 n1 r1)).setCell (p := ⟨w.heap.size + 1, 2, none⟩) (by simp) (.slice a2 n2 r2))
  have D8 := Z.out.set3 (.bool bb) (.slice a1 n1 r1) (.slice a2 n2 r2)
  have hc0 := D8.c0; have hc1 := D8.c1; have hc2 := D8.c2
  clear D8
  have d0 := D.out.c0
  have d1 := D.out.c1
  have d2 := D.out.c2
  have z0 := Z.out.c0
  have z1 := Z.out.c1
  have z2 := Z.out.c2
  have y0 := Z.out.f 0
  have y1 := Z.out.f 1
  have y2 := Z.out.f 2
  go_enter Tryz.func96, Tryz.ntmps96
  go_wp2_with (rw [← HW.out])
  exact bodyPost_ret (v := .agg #[.bool bb, .slice a1 n1 r1, .slice a2 n2 r2]) (by simp [results, Tryz.results96, go_sem, hc0, hc1, hc2]) rfl ⟨rfl, e2.out⟩
/-- the pair of slices that an element of a vector of the call's own is -/
theorem OwnV.pair {w : World} {B : Nat} {v : Value} {L : List Fr} {xs : List (Value × Value)} (h : OwnV w B v L xs) (j : Nat) (hj : j < L.length) (hj' : j < xs.length) : ∃ a1 r1 a2 r2, xs[j]'hj' = (.slice a1 (L[j]'hj).mag.length r1, .slice a2 (L[j]'hj).den.length r2) := by
  obtain ⟨a, c, e, f, h1, h2⟩ := (h.each j hj hj').slices
  exact ⟨a, c, e, f, by rw [← h1, ← h2]⟩
/-- the element at row i and column k of a matrix that the call owns: its fraction, its pair, where it lies -/
theorem elem_at {w : World} {B q N cap R C i k : Nat} {g : Mx} {xs : List (Value × Value)} (h : OwnV w B (.slice (some ⟨q, 0, none⟩) N cap) (tabM R C g) xs) (hN : N = R * C) (hi : i < R) (hk : k < C) :
    ∃ a1 r1 a2 r2, (w.cell? ⟨q, (i * C + k) * 3, none⟩ = some (.bool (g i k).neg) ∧ w.cell? ⟨q, (i * C + k) * 3 + 1, none⟩ = some (.slice a1 (g i k).mag.length r1) ∧ w.cell? ⟨q, (i * C + k) * 3 + 2, none⟩ = some (.slice a2 (g i k).den.length r2)) ∧
      RowR w (.slice a1 (g i k).mag.length r1) (g i k).mag (.slice a2 (g i k).den.length r2) (g i k).den ∧ (∃ hj : i * C + k < xs.length, xs[i * C + k]'hj = (.slice a1 (g i k).mag.length r1, .slice a2 (g i k).den.length r2)) ∧
      (∀ b, ((Value.slice a1 (g i k).mag.length r1).ownBlock = some b ∨ (Value.slice a2 (g i k).den.length r2).ownBlock = some b) → b ≠ q ∧ OnV (.slice (some ⟨q, 0, none⟩) N cap) xs b) := by
  have hlt : i * C + k < (tabM R C g).length := by rw [tabM_len]; exact at_lt hi hk
  have hlt' : i * C + k < xs.length := by rw [h.len]; exact hlt
  obtain ⟨a1, r1, a2, r2, e⟩ := h.pair _ hlt hlt'
  obtain ⟨c0, c1, c2⟩ := h.cells _ hlt hlt'
  have hr := h.each _ hlt hlt'
  rw [tabM_get hk] at c0 e hr
  have hne := h.ne_row _ hlt'
  have hon : ∀ b, ((xs[i * C + k]'hlt').1.ownBlock = some b ∨ (xs[i * C + k]'hlt').2.ownBlock = some b) → OnV (.slice (some ⟨q, 0, none⟩) N cap) xs b := fun b hb => .inr ⟨_, List.getElem_mem hlt', hb⟩
  rw [e] at c1 c2 hr hne hon
  exact ⟨a1, r1, a2, r2, ⟨c0, c1, c2⟩, hr.row, ⟨hlt', e⟩, fun b hb => ⟨fun e => hne b hb (by rw [e]; rfl), hon b hb⟩⟩
theorem spec_atE (r : Int) (C i k N q cap : Nat) (bb : Bool) (a1 : Option Addr) (n1 r1 : Nat) (a2 : Option Addr) (n2 r2 : Nat) (w : World) (hi : i * C + k < N) (hn : N ≤ 576)
    (h : w.cell? ⟨q, (i * C + k) * 3, none⟩ = some (.bool bb) ∧ w.cell? ⟨q, (i * C + k) * 3 + 1, none⟩ = some (.slice a1 n1 r1) ∧ w.cell? ⟨q, (i * C + k) * 3 + 2, none⟩ = some (.slice a2 n2 r2)) :
    Calls Tryz.prog 96 #[.agg #[.int .i64 r, .int .i64 (C : Int), .slice (some ⟨q, 0, none⟩) N cap], .int .i64 (i : Int), .int .i64 (k : Int)] w fun e w' => e = .returned (.agg #[.bool bb, .slice a1 n1 r1, .slice a2 n2 r2]) ∧ Below w.heap.size w w' :=
  spec_atC r C i k N q 0 cap _ a1 _ r1 a2 _ r2 w hi hn (by rw [Nat.zero_add]; exact h.1) (by rw [Nat.zero_add]; exact h.2.1) (by rw [Nat.zero_add]; exact h.2.2)

theorem cell_farq {w : World} {p k j o1 o2 o3 : Nat} (h : k ≠ p) (x y z : Value) : (((w.setCell ⟨p, o1, none⟩ x).setCell ⟨p, o2, none⟩ y).setCell ⟨p, o3, none⟩ z).cell? ⟨k, j, none⟩ = w.cell? ⟨k, j, none⟩ :=
  (World.cell?_of_block (a := ⟨k, j, none⟩) (Below.heap_setCell _ ⟨p, o3, none⟩ z k h)).trans ((World.cell?_of_block (a := ⟨k, j, none⟩) (Below.heap_setCell _ ⟨p, o2, none⟩ y k h)).trans (World.cell?_of_block (a := ⟨k, j, none⟩) (Below.heap_setCell _ ⟨p, o1, none⟩ x k h)))
set_option maxRecDepth 100000 in
set_option maxHeartbeats 4000000 in
theorem spec_clear (R C N n k q cap B : Nat) (g : Mx) (xs : List (Value × Value)) (w : World) (h : OwnV w B (.slice (some ⟨q, 0, none⟩) N cap) (tabM R C g) xs) (hN : N = R * C) (hR : R ≤ 24) (hC : C ≤ 24) (hn : n < R) (hk : k < C) (hg : GoodM R C g) (hB : B ≤ w.heap.size) :
    Calls Tryz.prog 124 #[.agg #[.int .i64 (R : Int), .int .i64 (C : Int), .slice (some ⟨q, 0, none⟩) N cap], .int .i64 (n : Int), .int .i64 (k : Int)] w fun e w' => (∃ v, e = .returned v) ∧ ∃ xs', OwnV w' B (.slice (some ⟨q, 0, none⟩) N cap) (tabM R C (clG g n k)) xs' ∧ Kept (fun j => j = q) w w' ∧ (∀ j, OnV (.slice (some ⟨q, 0, none⟩) N cap) xs' j → OnV (.slice (some ⟨q, 0, none⟩) N cap) xs j ∨ w.heap.size ≤ j) := by
  have hq := (h.lt q (.inl rfl)).2
  have hRC : R * C ≤ 24 * 24 := Nat.mul_le_mul hR hC
  have hN9 : N ≤ 576 := by omega
  have HN := Lib.hid hN
  have HG := Lib.hid hg
  have HX := Lib.hid h
  clear h hN hg hRC
  go_enter Tryz.func124, Tryz.ntmps124
  go_wp2_with fail
  obtain ⟨h0, hh0⟩ : ∃ h0, h0 = w.heap.size := ⟨_, rfl⟩
  obtain ⟨W0, hW0⟩ : ∃ x, x = w.alloc (.cells #[.int .i64 (R : Int), .int .i64 (C : Int), .slice (some ⟨q, 0, none⟩) N cap] 25) := ⟨_, rfl⟩
  have M0 := Lib.hid (show B3 W0 h0 25 (.int .i64 (R : Int)) (.int .i64 (C : Int)) (.slice (some ⟨q, 0, none⟩) N cap) by rw [hW0, hh0]; exact B3.new _ _ _ _ _)
  have V0 := Lib.hid (show OwnV W0 B (.slice (some ⟨q, 0, none⟩) N cap) (tabM R C (clP g n k 0 k)) xs by rw [hW0, clP_zero g n k k (Nat.le_refl _)]; exact HX.out.alloc _)
  have K0 := Lib.hid (show Kept (fun j => j = q) w W0 by rw [hW0]; exact Kept.of_below ((Below.refl _ _).alloc (Nat.le_refl _) _))
  have HH := Lib.hid hh0
  rw [← hh0] at hq hB
  rw [← hW0, ← hh0]
  clear hW0 hh0
  go_loopw [6] (fun iv wr => ∃ (i : Nat) (ys : List (Value × Value)), i ≤ R ∧ iv = .int .i64 i ∧ Hid (B3 wr h0 25 (.int .i64 (R : Int)) (.int .i64 (C : Int)) (.slice (some ⟨q, 0, none⟩) N cap)) ∧ Hid (OwnV wr B (.slice (some ⟨q, 0, none⟩) N cap) (tabM R C (clP g n k i k)) ys) ∧ Hid (Kept (fun j => j = q) w wr) ∧ Hid (∀ j, OnV (.slice (some ⟨q, 0, none⟩) N cap) ys j → OnV (.slice (some ⟨q, 0, none⟩) N cap) xs j ∨ h0 ≤ j)) (fun iv _ => R - (intOf iv).toNat)
  case atStart => exact ⟨0, xs, Nat.zero_le _, rfl, M0, V0, K0, Lib.hid (fun j hj => .inl hj)⟩
  case round =>
    clear M0 V0 K0
    obtain ⟨i, ys, hi, rfl, M, V, K, O⟩ := hrel
    have m0 := M.out.c0
    have m1 := M.out.c1
    have m2 := M.out.c2
    by_cases hlt : i < R
    · have hik : i * C + k < N := by have := at_lt hlt hk; rw [HN.out]; exact this
      obtain ⟨a1, r1, a2, r2, hcc, hrr, -, hon⟩ := elem_at V.out HN.out hlt hk
      have HF := Lib.hid (HG.out i k hlt hk)
      have HFE := Lib.hid (show clP g n k i k i k = g i k from clP_start k)
      rw [HFE.out] at hcc hrr hon
      obtain ⟨f, hf⟩ : ∃ f, f = g i k := ⟨_, rfl⟩
      rw [← hf] at hcc hrr hon HF
      have HFF := Lib.hid hf
      have HAT := Lib.hid (spec_atE (R : Int) C i k N q cap _ a1 _ r1 a2 _ r2 wr hik hN9 hcc)
      have RR := Lib.hid hrr
      have RON := Lib.hid (fun b hb => (hon b hb).1)
      clear hf hcc hrr hon hik
      go_wp2_with fail
      refine (HAT.out).mono ?_
      rintro e w1 ⟨rfl, b1⟩
      replace M := Lib.hid (M.out.below b1)
      replace V := Lib.hid (V.out.below b1)
      replace K := Lib.hid (K.out.trans (Kept.of_below b1))
      replace RR := Lib.hid (RR.out.below b1)
      clear b1 HAT m0 m1 m2
      obtain ⟨p7, hp7⟩ : ∃ p7, p7 = w1.heap.size := ⟨_, rfl⟩
      obtain ⟨W1, hW1⟩ : ∃ x, x = w1.alloc (.cells #[.bool f.neg, .slice a1 f.mag.length r1, .slice a2 f.den.length r2] 34) := ⟨_, rfl⟩
      have hp0 : h0 < p7 := by have := M.out.lt; omega
      have F7 := Lib.hid (show B3 W1 p7 34 (.bool f.neg) (.slice a1 f.mag.length r1) (.slice a2 f.den.length r2) by rw [hW1, hp7]; exact B3.new _ _ _ _ _)
      have b1 := (show Below w1.heap.size w1 W1 by rw [hW1]; exact (Below.refl _ _).alloc (Nat.le_refl _) _)
      replace M := Lib.hid (M.out.below b1)
      replace V := Lib.hid (V.out.below b1)
      replace K := Lib.hid (K.out.trans (Kept.of_below b1))
      replace RR := Lib.hid (RR.out.below b1)
      clear b1
      have HW := Lib.hid hW1.symm
      have HP := Lib.hid hp7.symm
      clear hW1 hp7
      have f0 := F7.out.c0
      have f1 := F7.out.c1
      have f2 := F7.out.c2
      by_cases hin : i = n
      · have he : ((i : Int) == (n : Int)) = true := by rw [beq_iff_eq]; omega
        go_wp2_with (rw [HW.out, HP.out])
        exact ⟨⟨i + 1, ys, by omega, by go_num, M, Lib.hid (by rw [← clP_skip (.inl hin)]; exact V.out), K, O⟩, by simp [intOf]; omega⟩
      · have he : ((i : Int) == (n : Int)) = false := by rw [beq_eq_false_iff_ne]; omega
        cases hq0 : nilF f with
        | true =>
          go_wp2_with (rw [HW.out, HP.out])
          refine (spec_nilF f _ _ _ RR.out).mono ?_
          rw [hq0]
          rintro e w2 ⟨rfl, b2⟩
          replace M := Lib.hid (M.out.below b2)
          replace V := Lib.hid (V.out.below b2)
          replace K := Lib.hid (K.out.trans (Kept.of_below b2))
          clear b2 f0 f1 f2
          go_wp2_with fail
          exact ⟨⟨i + 1, ys, by omega, by go_num, M, Lib.hid (by rw [← clP_skip (.inr (by rw [← HFF.out]; exact hq0))]; exact V.out), K, O⟩, by simp [intOf]; omega⟩
        | false =>
          go_wp2_with (rw [HW.out, HP.out])
          refine (spec_nilF f _ _ _ RR.out).mono ?_
          rw [hq0]
          rintro e w2 ⟨rfl, b2⟩
          replace M := Lib.hid (M.out.below b2)
          replace F7 := Lib.hid (F7.out.below b2)
          replace V := Lib.hid (V.out.below b2)
          replace K := Lib.hid (K.out.trans (Kept.of_below b2))
          replace RR := Lib.hid (RR.out.below b2)
          clear b2 f0 f1 f2
          go_wp2_with fail
          go_loopw [8] (fun jv wi => ∃ (j : Nat) (zs : List (Value × Value)), k ≤ j ∧ j ≤ C ∧ jv = .int .i64 j ∧ Hid (B3 wi h0 25 (.int .i64 (R : Int)) (.int .i64 (C : Int)) (.slice (some ⟨q, 0, none⟩) N cap)) ∧ Hid (B3 wi p7 34 (.bool f.neg) (.slice a1 f.mag.length r1) (.slice a2 f.den.length r2)) ∧ Hid (RowR wi (.slice a1 f.mag.length r1) f.mag (.slice a2 f.den.length r2) f.den) ∧ Hid (OwnV wi B (.slice (some ⟨q, 0, none⟩) N cap) (tabM R C (clP g n k i j)) zs) ∧ Hid (Kept (fun j => j = q) w wi) ∧ Hid (∀ b, OnV (.slice (some ⟨q, 0, none⟩) N cap) zs b → OnV (.slice (some ⟨q, 0, none⟩) N cap) xs b ∨ h0 ≤ b)) (fun jv _ => C - (intOf jv).toNat)
          case atStart => exact ⟨k, ys, Nat.le_refl _, by omega, rfl, M, F7, RR, V, K, O⟩
          case round =>
            clear M F7 RR V K O ys
            obtain ⟨j, zs, hkj, hj, rfl, M, F7, RR, V, K, O⟩ := hrel
            have m0 := M.out.c0
            have m1 := M.out.c1
            have m2 := M.out.c2
            by_cases hlj : j < C
            · have hnj : n * C + j < N := by have := at_lt hn hlj; rw [HN.out]; exact this
              have hij : i * C + j < N := by have := at_lt hlt hlj; rw [HN.out]; exact this
              obtain ⟨a3, r3, a4, r4, hc3, hr3, -, -⟩ := elem_at V.out HN.out hn hlj
              rw [clP_row] at hc3 hr3
              have HGn := Lib.hid (HG.out n j hn hlj)
              obtain ⟨y, hy⟩ : ∃ y, y = g n j := ⟨_, rfl⟩
              rw [← hy] at hc3 hr3 HGn
              have HY := Lib.hid hy
              have R3 := Lib.hid hr3
              have C3 := Lib.hid hc3
              clear hy hc3 hr3
              go_wp2_with fail
              refine (spec_atE (R : Int) C n j N q cap _ a3 _ r3 a4 _ r4 wr hnj hN9 C3.out).mono ?_
              rintro e w2 ⟨rfl, b2⟩
              replace M := Lib.hid (M.out.below b2)
              replace F7 := Lib.hid (F7.out.below b2)
              replace V := Lib.hid (V.out.below b2)
              replace K := Lib.hid (K.out.trans (Kept.of_below b2))
              replace RR := Lib.hid (RR.out.below b2)
              replace R3 := Lib.hid (R3.out.below b2)
              clear b2 m0 m1 m2 C3
              cases hq1 : nilF y with
              | true =>
                go_wp2_with fail
                refine (spec_nilF y _ _ _ R3.out).mono ?_
                rw [hq1]
                rintro e w3 ⟨rfl, b2⟩
                replace M := Lib.hid (M.out.below b2)
                replace F7 := Lib.hid (F7.out.below b2)
                replace V := Lib.hid (V.out.below b2)
                replace K := Lib.hid (K.out.trans (Kept.of_below b2))
                replace RR := Lib.hid (RR.out.below b2)
                clear b2
                go_wp2_with fail
                exact ⟨⟨j + 1, zs, by omega, by omega, by go_num, M, F7, RR, Lib.hid (by rw [← clP_nil (by rw [← HY.out]; exact hq1)]; exact V.out), K, O⟩, by simp [intOf]; omega⟩
              | false =>
                go_wp2_with fail
                refine (spec_nilF y _ _ _ R3.out).mono ?_
                rw [hq1]
                rintro e w3 ⟨rfl, b2⟩
                replace M := Lib.hid (M.out.below b2)
                replace F7 := Lib.hid (F7.out.below b2)
                replace V := Lib.hid (V.out.below b2)
                replace K := Lib.hid (K.out.trans (Kept.of_below b2))
                replace RR := Lib.hid (RR.out.below b2)
                replace R3 := Lib.hid (R3.out.below b2)
                clear b2
                obtain ⟨a3, r3, a4, r4, hc3, hr3, -, -⟩ := elem_at V.out HN.out hn hlj
                rw [clP_row, ← HY.out] at hc3 hr3
                obtain ⟨a5, r5, a6, r6, hc5, hr5, -, -⟩ := elem_at V.out HN.out hlt hlj
                rw [clP_at] at hc5 hr5
                have HGi := Lib.hid (HG.out i j hlt hlj)
                obtain ⟨x, hx⟩ : ∃ x, x = g i j := ⟨_, rfl⟩
                rw [← hx] at hc5 hr5 HGi
                have HXX := Lib.hid hx
                clear hx
                obtain ⟨Y, hY⟩ : ∃ Y, Y = mulX f y := ⟨_, rfl⟩
                obtain ⟨Z, hZ⟩ : ∃ Z, Z = subX x Y := ⟨_, rfl⟩
                have SF := gd_small HF.out
                have SY := gd_small HGn.out
                have SX := gd_small HGi.out
                have HA1 := Lib.hid (fun W (hW : Below w3.heap.size w3 W) => (spec_atE (R : Int) C i j N q cap _ a5 _ r5 a6 _ r6 W hij hN9 ⟨(hW.cell (p := ⟨q, (i * C + j) * 3, none⟩) (World.block_lt_of_cell? w3 _ hc5.1)).trans hc5.1, (hW.cell (p := ⟨q, (i * C + j) * 3 + 1, none⟩) (World.block_lt_of_cell? w3 _ hc5.2.1)).trans hc5.2.1, (hW.cell (p := ⟨q, (i * C + j) * 3 + 2, none⟩) (World.block_lt_of_cell? w3 _ hc5.2.2)).trans hc5.2.2⟩).mono (R' := fun e w' => e = .returned (.agg #[.bool x.neg, .slice a5 x.mag.length r5, .slice a6 x.den.length r6]) ∧ Below W.heap.size W w' ∧ Below w3.heap.size w3 w') (fun e w' ⟨he, hb⟩ => ⟨he, hb, hW.trans (hb.mono hW.size)⟩))
                have HA2 := Lib.hid (fun W (hW : Below w3.heap.size w3 W) => (spec_atE (R : Int) C n j N q cap _ a3 _ r3 a4 _ r4 W hnj hN9 ⟨(hW.cell (p := ⟨q, (n * C + j) * 3, none⟩) (World.block_lt_of_cell? w3 _ hc3.1)).trans hc3.1, (hW.cell (p := ⟨q, (n * C + j) * 3 + 1, none⟩) (World.block_lt_of_cell? w3 _ hc3.2.1)).trans hc3.2.1, (hW.cell (p := ⟨q, (n * C + j) * 3 + 2, none⟩) (World.block_lt_of_cell? w3 _ hc3.2.2)).trans hc3.2.2⟩).mono (R' := fun e w' => e = .returned (.agg #[.bool y.neg, .slice a3 y.mag.length r3, .slice a4 y.den.length r4]) ∧ Below W.heap.size W w' ∧ Below w3.heap.size w3 w') (fun e w' ⟨he, hb⟩ => ⟨he, hb, hW.trans (hb.mono hW.size)⟩))
                have HM := Lib.hid (fun W (hW : Below w3.heap.size w3 W) => (spec_mulF f y SF SY _ _ _ _ W (RR.out.below hW) (hr3.below hW)).mono (R' := fun e w' => ∃ a c d b, e = .returned (.agg #[.bool Y.neg, .slice a Y.mag.length c, .slice d Y.den.length b]) ∧ OwnR w' w3.heap.size (.slice a Y.mag.length c) Y.mag (.slice d Y.den.length b) Y.den ∧ Below W.heap.size W w' ∧ Below w3.heap.size w3 w') (fun e w' ⟨u, v, he, ho, hb⟩ => by
                  rw [← hY] at he ho
                  obtain ⟨a, c, d, b, rfl, rfl⟩ := ho.slices
                  exact ⟨a, c, d, b, he, ho.base hW.size, hb, hW.trans (hb.mono hW.size)⟩))
                have HS1 := Lib.hid (fun W (hW : Below w3.heap.size w3 W) (v d : Value) (hr : RowR W v Y.mag d Y.den) => (spec_subS x Y SX (by rw [hY]; exact small_mul _ _) _ _ v d W (hr5.below hW) hr).mono (R' := fun e w' => ∃ a c d b, e = .returned (.agg #[.bool Z.neg, .slice a Z.mag.length c, .slice d Z.den.length b]) ∧ OwnR w' w3.heap.size (.slice a Z.mag.length c) Z.mag (.slice d Z.den.length b) Z.den ∧ Below w3.heap.size w3 w') (fun e w' ⟨u, v, he, ho, hb⟩ => by
                  rw [← hZ] at he ho
                  obtain ⟨a, c, d, b, rfl, rfl⟩ := ho.slices
                  exact ⟨a, c, d, b, he, ho.base hW.size, hW.trans (hb.mono hW.size)⟩))
                have HZZ := Lib.hid (show (tabM R C (clP g n k i j)).set (i * C + j) Z = tabM R C (clP g n k i (j + 1)) by
                  rw [hZ, hY, HXX.out, HFF.out, HY.out]
                  exact clP_set hin hkj hlj (by rw [← HFF.out]; exact hq0) (by rw [← HY.out]; exact hq1))
                obtain ⟨l, hl⟩ : ∃ l, i * C = l := ⟨_, rfl⟩
                have p1 : (i : Int) * (C : Int) = (l : Int) := by rw [← hl, Int.natCast_mul]
                have p2 : (l : Int) + (j : Int) = ((l + j : Nat) : Int) := by omega
                obtain ⟨jj, hjj⟩ : ∃ jj, l + j = jj := ⟨_, rfl⟩
                rw [hjj] at p2
                have hjN : jj < N := by rw [← hjj, ← hl]; exact hij
                have x1 : (0 : Int) ≤ (jj : Int) := by omega
                have x2 : (jj : Int) < (N : Int) := by omega
                have hl9 : l ≤ 576 := by omega
                have wr1 : IntKind.i64.wrap (l : Int) = (l : Int) := by rw [IntKind.wrap_i64]; omega
                have wr2 : IntKind.i64.wrap (jj : Int) = (jj : Int) := by rw [IntKind.wrap_i64]; omega
                have HJ := Lib.hid (show i * C + j = jj by rw [hl, hjj])
                have VH := Lib.hid (fun W (hW : Below w3.heap.size w3 W) => V.out.below hW)
                have HT := Lib.hid (show ∀ W : World, Below w3.heap.size w3 W → ((∃ u0, W.cell? ⟨q, jj * 3, none⟩ = some u0) ∧ (∃ u1, W.cell? ⟨q, jj * 3 + 1, none⟩ = some u1) ∧ (∃ u2, W.cell? ⟨q, jj * 3 + 2, none⟩ = some u2)) ∧ W.frozen? ⟨q, jj * 3, none⟩ = false ∧ W.frozen? ⟨q, jj * 3 + 1, none⟩ = false ∧ W.frozen? ⟨q, jj * 3 + 2, none⟩ = false from fun W hW => by
                  have OK := VH.out W hW
                  obtain ⟨s0, s1, s2⟩ := OK.cells jj (by rw [tabM_len, ← HN.out]; exact hjN) (by rw [OK.len, tabM_len, ← HN.out]; exact hjN)
                  exact ⟨⟨⟨_, s0⟩, ⟨_, s1⟩, ⟨_, s2⟩⟩, OK.frozen _, OK.frozen _, OK.frozen _⟩)
                have HS := Lib.hid (show ∀ W : World, Below w3.heap.size w3 W → (W.cell? ⟨h0, 0, none⟩ = some (.int .i64 (R : Int)) ∧ W.cell? ⟨h0, 1, none⟩ = some (.int .i64 (C : Int)) ∧ W.cell? ⟨h0, 2, none⟩ = some (.slice (some ⟨q, 0, none⟩) N cap) ∧ W.cell? ⟨p7, 0, none⟩ = some (.bool f.neg) ∧ W.cell? ⟨p7, 1, none⟩ = some (.slice a1 f.mag.length r1) ∧ W.cell? ⟨p7, 2, none⟩ = some (.slice a2 f.den.length r2)) from fun W hW => ⟨(M.out.below hW).c0, (M.out.below hW).c1, (M.out.below hW).c2, (F7.out.below hW).c0, (F7.out.below hW).c1, (F7.out.below hW).c2⟩)
                have m0 := M.out.c0
                have m1 := M.out.c1
                have m2 := M.out.c2
                have f0 := F7.out.c0
                have f1 := F7.out.c1
                have f2 := F7.out.c2
                have BK := Lib.hid K.out.size
                clear hc3 hr3 hc5 hr5 hl hjj hY hZ SF SY SX
                go_wp2_with fail
                go_region_held3 (fun w' => w'.cell? ⟨h0, 0, none⟩ = some (.int .i64 (R : Int)) ∧ w'.cell? ⟨h0, 1, none⟩ = some (.int .i64 (C : Int)) ∧ w'.cell? ⟨h0, 2, none⟩ = some (.slice (some ⟨q, 0, none⟩) N cap) ∧ w'.cell? ⟨p7, 0, none⟩ = some (.bool f.neg) ∧ w'.cell? ⟨p7, 1, none⟩ = some (.slice a1 f.mag.length r1) ∧ w'.cell? ⟨p7, 2, none⟩ = some (.slice a2 f.den.length r2))
                  (first | exact HS.out _ (by first | with_reducible exact Below.refl _ _ | with_reducible exact (Below.refl _ _).drew | with_reducible exact bb_a | with_reducible exact bb_b | with_reducible exact bb_m | with_reducible exact bb_s | fail) | exact ⟨(cell_farq (show h0 ≠ q from by omega) _ _ _).trans ((HS.out _ (by first | with_reducible exact Below.refl _ _ | with_reducible exact (Below.refl _ _).drew | with_reducible exact bb_a | with_reducible exact bb_b | with_reducible exact bb_m | with_reducible exact bb_s | fail)).1), (cell_farq (show h0 ≠ q from by omega) _ _ _).trans ((HS.out _ (by first | with_reducible exact Below.refl _ _ | with_reducible exact (Below.refl _ _).drew | with_reducible exact bb_a | with_reducible exact bb_b | with_reducible exact bb_m | with_reducible exact bb_s | fail)).2.1), (cell_farq (show h0 ≠ q from by omega) _ _ _).trans ((HS.out _ (by first | with_reducible exact Below.refl _ _ | with_reducible exact (Below.refl _ _).drew | with_reducible exact bb_a | with_reducible exact bb_b | with_reducible exact bb_m | with_reducible exact bb_s | fail)).2.2.1), (cell_farq (show p7 ≠ q from by omega) _ _ _).trans ((HS.out _ (by first | with_reducible exact Below.refl _ _ | with_reducible exact (Below.refl _ _).drew | with_reducible exact bb_a | with_reducible exact bb_b | with_reducible exact bb_m | with_reducible exact bb_s | fail)).2.2.2.1), (cell_farq (show p7 ≠ q from by omega) _ _ _).trans ((HS.out _ (by first | with_reducible exact Below.refl _ _ | with_reducible exact (Below.refl _ _).drew | with_reducible exact bb_a | with_reducible exact bb_b | with_reducible exact bb_m | with_reducible exact bb_s | fail)).2.2.2.2.1), (cell_farq (show p7 ≠ q from by omega) _ _ _).trans ((HS.out _ (by first | with_reducible exact Below.refl _ _ | with_reducible exact (Below.refl _ _).drew | with_reducible exact bb_a | with_reducible exact bb_b | with_reducible exact bb_m | with_reducible exact bb_s | fail)).2.2.2.2.2)⟩)
                  (first
                    | (go_at_call 155; refine (HS1.out _ (by first | with_reducible exact Below.refl _ _ | with_reducible exact (Below.refl _ _).drew | with_reducible exact bb_a | with_reducible exact bb_b | with_reducible exact bb_m | with_reducible exact bb_s | fail) _ _ (by first | with_reducible exact o_m.row)).mono ?_; rintro e w_s ⟨a_s, c_s, d_s, b_s, rfl, o_s, bb_s⟩; obtain ⟨⟨⟨v0, s0⟩, ⟨v1, s1⟩, ⟨v2, s2⟩⟩, t0, t1, t2⟩ := HT.out _ bb_s)
                    | (go_at_call 83; refine (HM.out _ (by first | with_reducible exact Below.refl _ _ | with_reducible exact (Below.refl _ _).drew | with_reducible exact bb_a | with_reducible exact bb_b | with_reducible exact bb_m | with_reducible exact bb_s | fail)).mono ?_; rintro e w_m ⟨a_m, c_m, d_m, b_m, rfl, o_m, bw_m, bb_m⟩; obtain ⟨⟨⟨v0, s0⟩, ⟨v1, s1⟩, ⟨v2, s2⟩⟩, t0, t1, t2⟩ := HT.out _ bb_m)
                    | (go_at_call 96; with_reducible refine (HA1.out _ (by first | with_reducible exact Below.refl _ _ | with_reducible exact (Below.refl _ _).drew | with_reducible exact bb_a | with_reducible exact bb_b | with_reducible exact bb_m | with_reducible exact bb_s | fail)).mono ?_; rintro e w_a ⟨rfl, bw_a, bb_a⟩; (try have o_m := o_m.below bw_a); obtain ⟨⟨⟨v0, s0⟩, ⟨v1, s1⟩, ⟨v2, s2⟩⟩, t0, t1, t2⟩ := HT.out _ bb_a)
                    | (go_at_call 96; with_reducible refine (HA2.out _ (by first | with_reducible exact Below.refl _ _ | with_reducible exact (Below.refl _ _).drew | with_reducible exact bb_a | with_reducible exact bb_b | with_reducible exact bb_m | with_reducible exact bb_s | fail)).mono ?_; rintro e w_b ⟨rfl, bw_b, bb_b⟩; obtain ⟨⟨⟨v0, s0⟩, ⟨v1, s1⟩, ⟨v2, s2⟩⟩, t0, t1, t2⟩ := HT.out _ bb_b))
                all_goals (have lr := o_s.lt)
                all_goals (have L9 := V.out.lt)
                all_goals (have VF := (VH.out _ bb_s).set3 jj Z _ _ (by rw [tabM_len, ← HN.out]; exact hjN) (OwnR.base o_s (by have := BK.out; have := HH.out; omega)) (fun a ha _ r r' e1 e2 => by have h3 := (L9 r (.inr ⟨_, List.getElem_mem ha, e1⟩)).2; have h4 := (lr r' e2).1; omega) (fun r e2 => by have h4 := (lr r e2).1; have := BK.out; have := HH.out; omega))
                all_goals (have KF := ((kept_set w_s q (jj * 3) (.bool Z.neg)).trans (kept_set _ q (jj * 3 + 1) (.slice a_s Z.mag.length c_s))).trans (kept_set _ q (jj * 3 + 2) (.slice d_s Z.den.length b_s)))
                all_goals (have WB := (Kept.of_below (S := fun j => j = q) bb_s).trans KF)
                all_goals (have MF := Lib.hid (M.out.keptK WB (by omega)); have FF := Lib.hid (F7.out.keptK WB (by omega)); have RF := Lib.hid (RR.out.keptS WB RON.out); have KK := Lib.hid (K.out.trans WB); have VV := Lib.hid VF)
                all_goals (rw [HJ.out] at HZZ; rw [HZZ.out] at VV)
                all_goals clear VF KF WB HT HS HA1 HA2 HM HS1 VH o_s s0 s1 s2 t0 t1 t2 bb_s m0 m1 m2 f0 f1 f2
                all_goals go_wp2_with fail
                all_goals exact ⟨⟨j + 1, _, by omega, by omega, by go_num, MF, FF, RF, VV, KK, Lib.hid (fun b hb => by
                  rcases onV_set (n := h0) (fun r e2 => by have h4 := (lr r e2).1; have := BK.out; have := HH.out; omega) b hb with h | h
                  · exact O.out b h
                  · exact .inr h)⟩, by simp [intOf]; omega⟩
            · obtain rfl : j = C := by omega
              rw [clP_next] at V
              go_wp2_with fail
              exact ⟨⟨i + 1, zs, by omega, by go_num, M, V, K, O⟩, by simp [intOf]; omega⟩
    · obtain rfl : i = R := by omega
      rw [clP_end] at V
      go_wp2_with fail
      go_end0
      rw [← HH.out]
      exact ⟨⟨_, rfl⟩, ys, V.out, K.out, O.out⟩
end Go.Proofs.YtlepgkkpopjgoaaGreat
