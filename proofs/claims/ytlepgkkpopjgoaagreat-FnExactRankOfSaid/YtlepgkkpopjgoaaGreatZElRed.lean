/- l07Reduce of the model. -/
import Derived.Test.YtlepgkkpopjgoaaGreatZElApp
import Derived.BigRegion
namespace Go.Proofs.YtlepgkkpopjgoaaGreat
open Go.RowKit Go.WideShapes Go.ChangeShapes
set_option linter.unusedVariables false
set_option linter.unusedSimpArgs false
/-- every block that holds a matrix stays -/
def KM (w w' : World) : Prop := ∀ p x y z, B3 w p 25 x y z → B3 w' p 25 x y z
theorem KM.refl (w : World) : KM w w := fun _ _ _ _ h => h
theorem KM.trans {a b c : World} (h : KM a b) (k : KM b c) : KM a c := fun _ _ _ _ m => k _ _ _ _ (h _ _ _ _ m)
theorem KM.below {a b : World} (h : Below a.heap.size a b) : KM a b := fun _ _ _ _ m => m.below h
structure MK (w wr : World) (p : Nat) (x y z : Value) : Prop where
  D : B3 wr p 25 x y z
  K : KM w wr
section
variable {w wr : World} {p : Nat} {x y z : Value}
theorem MK.below {w' : World} (h : MK w wr p x y z) (hb : Below wr.heap.size wr w') : MK w w' p x y z := ⟨h.D.below hb, h.K.trans (KM.below hb)⟩
theorem MK.keptK {w' : World} {S : Nat → Prop} (h : MK w wr p x y z) (hk : Kept S wr w') (hn : ∀ q a b c, B3 wr q 25 a b c → ¬ S q) : MK w w' p x y z :=
  ⟨h.D.keptK hk (hn _ _ _ _ h.D), h.K.trans fun _ _ _ _ m => m.keptK hk (hn _ _ _ _ m)⟩
theorem MK.alloc (h : MK w wr p x y z) (o : Obj) : MK w (wr.alloc o) p x y z := ⟨h.D.alloc o, h.K.trans fun _ _ _ _ m => m.alloc o⟩
theorem MK.drew (h : MK w wr p x y z) : MK w wr.drew p x y z := ⟨h.D.drew, fun _ _ _ _ m => (h.K _ _ _ _ m).drew⟩
theorem MK.c0 (h : MK w wr p x y z) : wr.cell? ⟨p, 0, none⟩ = some x := h.D.c0
theorem MK.c1 (h : MK w wr p x y z) : wr.cell? ⟨p, 1, none⟩ = some y := h.D.c1
theorem MK.c2 (h : MK w wr p x y z) : wr.cell? ⟨p, 2, none⟩ = some z := h.D.c2
theorem MK.lt (h : MK w wr p x y z) : p < wr.heap.size := h.D.lt
end
theorem not3 {w : World} {B q n c : Nat} {L : List Fr} {xs : List (Value × Value)} (h : OwnV w B (.slice (some ⟨q, 0, none⟩) n c) L xs) : ∀ p a b d, B3 w p 25 a b d → ¬ p = q :=
  fun p a b d m e => h.not_b3 m (by decide) (by decide) (.inl (by rw [e]; rfl))
set_option maxRecDepth 100000 in
set_option maxHeartbeats 8000000 in
theorem spec_reduceE (R C N cap B : Nat) (a : Option Addr) (L : List Fr) (xs0 : List (Value × Value)) (w : World) (h : OwnV w B (.slice a N cap) L xs0) (hL : L.length = R * C) (hN : N = R * C) (hR : R ≤ 24) (hC : C ≤ 24) (hok : L.all okF = true) (hB : B ≤ w.heap.size) :
    Calls Tryz.prog 79 #[.agg #[.int .i64 (R : Int), .int .i64 (C : Int), .slice a N cap]] w fun e w' => ∃ pv fv xs ps, e = .returned (.tuple #[pv, fv]) ∧ ElS w' B (.slice a N cap) R C (runE R C C (startE L C)) pv fv xs ps ∧ Below B w w' ∧ KM w w' := by
  have hRC : R * C ≤ 24 * 24 := Nat.mul_le_mul hR hC
  have hN9 : N ≤ 576 := by omega
  have HN := Lib.hid hN
  have HX := Lib.hid h
  have HL := Lib.hid hL
  have HB9 := Lib.hid hB
  have E0 := Lib.hid (start_ok hL hok)
  obtain ⟨E, hE⟩ : ∃ E, runE R C C (startE L C) = E := ⟨_, rfl⟩
  have HE := Lib.hid hE
  rw [hE]
  clear h hN hRC hL hok hE
  go_enter Tryz.func79, Tryz.ntmps79
  go_wp2_with fail
  obtain ⟨h0, hh0⟩ : ∃ h0, h0 = w.heap.size := ⟨_, rfl⟩
  obtain ⟨W0, hW0⟩ : ∃ x, x = ((w.alloc (.cells #[.int .i64 (R : Int), .int .i64 (C : Int), .slice a N cap] 25)).alloc (.cells #[] 3)).alloc (.cells #[] 34) := ⟨_, rfl⟩
  have M0 := Lib.hid (show MK w W0 h0 (.int .i64 (R : Int)) (.int .i64 (C : Int)) (.slice a N cap) from ⟨by rw [hW0, hh0]; exact ((B3.new _ _ _ _ _).alloc _).alloc _, fun _ _ _ _ m => by rw [hW0]; exact ((m.alloc _).alloc _).alloc _⟩)
  have S0 := Lib.hid (show ElS W0 B (.slice a N cap) R C (startE L C) (.slice (some ⟨h0 + 1, 0, none⟩) 0 0) (.slice (some ⟨h0 + 1 + 1, 0, none⟩) 0 0) xs0 [] by
    have hlt := HX.out.lt
    refine ⟨?_, ?_, ?_, rfl, fun i hi => by simp [startE] at hi, fun q hq => by simp at hq, fun k hk e => ?_, fun k hk e => ?_, fun k e e' => ?_, fun q hq => by simp at hq⟩
    · rw [hW0]
      show OwnV _ B _ (tabM R C (elM L C)) xs0
      rw [tabM_self HL.out]
      exact ((HX.out.alloc _).alloc _).alloc _
    · rw [hW0, hh0]
      have h1 := (OwnI.lit0 (w.alloc (.cells #[.int .i64 (R : Int), .int .i64 (C : Int), .slice a N cap] 25))).base (show B ≤ _ by simp; omega)
      rw [World.size_alloc] at h1
      exact h1.alloc _
    · rw [hW0, hh0]
      have h1 := (OwnV.lit0 ((w.alloc (.cells #[.int .i64 (R : Int), .int .i64 (C : Int), .slice a N cap] 25)).alloc (.cells #[] 3))).row.mono (show B ≤ _ by simp; omega)
      rw [World.size_alloc, World.size_alloc] at h1
      exact h1
    · have h1 := (hlt k hk).2
      have h2 : h0 + 1 = k := by simpa [Value.ownBlock] using e
      omega
    · have h1 := (hlt k hk).2
      have h2 : h0 + 1 + 1 = k := by simpa [Value.ownBlock] using e
      omega
    · have h1 : h0 + 1 = k := by simpa [Value.ownBlock] using e
      have h2 : h0 + 1 + 1 = k := by simpa [Value.ownBlock] using e'
      omega)
  have B0 := Lib.hid (show Below B w W0 by rw [hW0]; exact (((Below.refl B w).alloc hB _).alloc (by simp; omega) _).alloc (by simp; omega) _)
  have G0 := Lib.hid (show h0 < W0.heap.size by rw [hW0, hh0]; simp; omega)
  have HH := Lib.hid hh0
  rw [← hh0] at hB
  rw [← hW0, ← hh0]
  clear hW0 hh0
  go_loopw [4, 5, 6] (fun pq fq kv wr => ∃ (k : Nat) (e : El) (pv fv : Value) (xs ps : List (Value × Value)), k ≤ C ∧ pv = pq ∧ fv = fq ∧ kv = .int .i64 k ∧ Hid (ElOk R C e k) ∧ Hid (runE R C (C - k) e = E) ∧ Hid (MK w wr h0 (.int .i64 (R : Int)) (.int .i64 (C : Int)) (.slice a N cap)) ∧ Hid (ElS wr B (.slice a N cap) R C e pv fv xs ps) ∧ Hid (Below B w wr)) (fun _ _ kv _ => C - (intOf kv).toNat)
  case atStart => exact ⟨0, startE L C, _, _, xs0, [], Nat.zero_le _, rfl, rfl, rfl, E0, HE, M0, S0, B0⟩
  case round =>
    clear M0 S0 B0 G0 E0 HE
    obtain ⟨k, e, pv, fv, xs, ps, hk, rfl, rfl, rfl, EO, HE, M, S, BB⟩ := hrel
    have HPL := Lib.hid (natV_len e.piv)
    have hn := EO.out.len
    have hfl := EO.out.count
    obtain ⟨pa, pc, hpv⟩ := S.out.P.slice
    have HPV := Lib.hid hpv
    rw [HPL.out] at hpv
    obtain ⟨n, hnn⟩ : ∃ n, e.piv.length = n := ⟨_, rfl⟩
    rw [hnn] at hpv hn
    have HNN := Lib.hid hnn
    clear hnn
    have m0 := M.out.c0
    have m1 := M.out.c1
    have m2 := M.out.c2
    by_cases hlt : k < C
    · by_cases hnR : n < R
      · have hN0 : 0 < (tabM R C e.g).length := by rw [tabM_len]; exact Nat.mul_pos (by omega) (by omega)
        obtain ⟨q, c9, hs9, hq1, hq2⟩ := S.out.V.some_at hN0
        injection hs9 with a1 a2 a3
        subst a1
        clear a2 a3 hN0 c9 hq1
        have hqh : q < h0 := by rw [HH.out]; exact (HX.out.lt q (.inl rfl)).2
        -- the search
        subst hpv
        go_wp2_with fail
        go_loopw [8] (fun iv wi => ∃ i : Nat, n ≤ i ∧ i ≤ R ∧ iv = .int .i64 i ∧ Hid (∀ b, n ≤ b → b < i → nilF (e.g b k) = true) ∧ Hid (MK w wi h0 (.int .i64 (R : Int)) (.int .i64 (C : Int)) (.slice (some ⟨q, 0, none⟩) N cap)) ∧ Hid (ElS wi B (.slice (some ⟨q, 0, none⟩) N cap) R C e (.slice pa n pc) fv xs ps) ∧ Hid (Below B w wi)) (fun iv _ => R - (intOf iv).toNat)
        case atStart => exact ⟨n, Nat.le_refl _, by omega, rfl, Lib.hid (fun b h1 h2 => by omega), M, S, BB⟩
        case round =>
          clear M S BB m0 m1 m2
          obtain ⟨i, hni, hi, rfl, NI, M, S, BB⟩ := hrel
          have m0 := M.out.c0
          have m1 := M.out.c1
          have m2 := M.out.c2
          by_cases hil : i < R
          · have hik : i * C + k < N := by have := at_lt hil hlt; rw [HN.out]; exact this
            obtain ⟨a1, r1, a2, r2, hcc, hrr, hpr, hon⟩ := elem_at S.out.V HN.out hil hlt
            obtain ⟨f, hf⟩ : ∃ f, f = e.g i k := ⟨_, rfl⟩
            rw [← hf] at hcc hrr hpr hon
            have HF := Lib.hid hf
            have HAT := Lib.hid (spec_atE (R : Int) C i k N q cap _ a1 _ r1 a2 _ r2 wr hik hN9 hcc)
            have RR := Lib.hid hrr
            have HPR := Lib.hid hpr
            clear hf hcc hrr hpr hon
            go_wp2_with fail
            refine (HAT.out).mono ?_
            rintro ee w1 ⟨rfl, b1⟩
            replace M := Lib.hid (M.out.below b1)
            replace S := Lib.hid (S.out.below b1)
            replace BB := Lib.hid (BB.out.trans (b1.mono (Nat.le_trans HB9.out BB.out.size)))
            replace RR := Lib.hid (RR.out.below b1)
            clear b1 HAT m0 m1 m2
            cases hq0 : nilF f with
            | true =>
              go_wp2_with fail
              refine (spec_nilF f _ _ _ RR.out).mono ?_
              rw [hq0]
              rintro ee w2 ⟨rfl, b1⟩
              replace M := Lib.hid (M.out.below b1)
              replace S := Lib.hid (S.out.below b1)
              replace BB := Lib.hid (BB.out.trans (b1.mono (Nat.le_trans HB9.out BB.out.size)))
              clear b1
              go_wp2_with fail
              exact ⟨⟨i + 1, by omega, by omega, by go_num, Lib.hid (fun b h1 h2 => by
                by_cases h3 : b = i
                · rw [h3, ← HF.out]; exact hq0
                · exact NI.out b h1 (by omega)), M, S, BB⟩, by simp [intOf]; omega⟩
            | false =>
              have HFI := Lib.hid (show firstR e.g k (R - e.piv.length) e.piv.length = i by rw [HNN.out]; exact firstR_of hni hi NI.out (fun _ => by rw [← HF.out]; exact hq0))
              have HSE := Lib.hid (show stepE R e k = useE e i k by unfold stepE; rw [if_pos (by rw [HNN.out]; exact hnR), HFI.out, if_neg (by omega)])
              have HUE := Lib.hid (show (useE e i k).g = clG (dvG (exG e.g i n) n k) n k by unfold useE; rw [HNN.out])
              have HUP := Lib.hid (show (useE e i k).piv = e.piv ++ [k] from rfl)
              have HUF := Lib.hid (show (useE e i k).fac = e.fac ++ (if i = n then [] else [m1F]) ++ [e.g i k] by unfold useE; rw [HNN.out])
              have HGU := Lib.hid (useE_good EO.out.ok hil (by rw [HNN.out]; exact hnR) hlt (by rw [← HF.out]; exact hq0))
              go_wp2_with fail
              refine (spec_nilF f _ _ _ RR.out).mono ?_
              rw [hq0]
              rintro ee w2 ⟨rfl, b1⟩
              replace M := Lib.hid (M.out.below b1)
              replace S := Lib.hid (S.out.below b1)
              replace BB := Lib.hid (BB.out.trans (b1.mono (Nat.le_trans HB9.out BB.out.size)))
              clear b1 HPR RR
              have m0 := M.out.c0
              have m1 := M.out.c1
              have m2 := M.out.c2
              have heR : ((i : Int) == (R : Int)) = false := by rw [beq_eq_false_iff_ne]; omega
              by_cases hin : i = n
              · have he : ((i : Int) != (n : Int)) = false := by unfold bne; rw [show ((i : Int) == (n : Int)) = true by rw [beq_iff_eq]; omega]; rfl
                have HSW := Lib.hid (show tabM R C (exG e.g i n) = tabM R C e.g by rw [hin, exG_self])
                have SX := Lib.hid (show ElS w2 B (.slice (some ⟨q, 0, none⟩) N cap) R C ⟨exG e.g i n, e.piv, e.fac ++ (if i = n then [] else [m1F])⟩ (.slice pa n pc) fv xs ps by
                  rw [if_pos hin, List.append_nil, hin, exG_self]; exact S.out)
                clear S HSW
                obtain ⟨ps', hps'⟩ : ∃ ps', ps' = ps := ⟨_, rfl⟩
                rw [← hps'] at SX
                clear hps'
                go_wp2_with fail
                have hnk : n * C + k < N := by have := at_lt hnR hlt; rw [HN.out]; exact this
                obtain ⟨a3, r3, a4, r4, hc3, hr3, hp3, ho3⟩ := elem_at SX.V' HN.out hnR hlt
                have E3 : exG e.g i n n k = f := (ex_at e.g i n k).trans HF.out.symm
                rw [E3] at hc3 hr3 hp3 ho3
                obtain ⟨hj9, hp3⟩ := hp3
                have HE3 := SX.elem hj9
                rw [hp3] at HE3
                have HAT := Lib.hid (spec_atE (R : Int) C n k N q cap _ a3 _ r3 a4 _ r4 w2 hnk hN9 hc3)
                have R3 := Lib.hid hr3
                have RON := Lib.hid (fun b hb => (ho3 b hb).1)
                have HE3 := Lib.hid HE3
                have SS := Lib.hid SX
                have m0 := M.out.c0
                have m1 := M.out.c1
                have m2 := M.out.c2
                clear hc3 hr3 hp3 ho3 hnk hj9 SX
                go_wp2_with fail
                refine (HAT.out).mono ?_
                rintro ee w5 ⟨rfl, b5⟩
                have HE5 := Lib.hid (fun j hj => (⟨Nat.lt_of_lt_of_le (HE3.out j hj).1 b5.size, (HE3.out j hj).2⟩ : j < w5.heap.size ∧ _))
                have S5 := Lib.hid (SS.out.below b5)
                have BB5 := Lib.hid (BB.out.trans (b5.mono (Nat.le_trans HB9.out BB.out.size)))
                have M5 := Lib.hid (M.out.below b5)
                have R5 := Lib.hid (R3.out.below b5)
                clear b5 HAT HE3 SS BB M R3 m0 m1 m2
                have hB5 : B ≤ w5.heap.size := (Nat.le_trans HB9.out BB5.out.size)
                have d0 := (B3.new w5 34 (.bool f.neg) (.slice a3 f.mag.length r3) (.slice a4 f.den.length r4)).c0
                have d1 := (B3.new w5 34 (.bool f.neg) (.slice a3 f.mag.length r3) (.slice a4 f.den.length r4)).c1
                have d2 := (B3.new w5 34 (.bool f.neg) (.slice a3 f.mag.length r3) (.slice a4 f.den.length r4)).c2
                have bA := ((Below.refl w5.heap.size w5).alloc (Nat.le_refl _) (.cells #[.bool f.neg, .slice a3 f.mag.length r3, .slice a4 f.den.length r4] 34)).alloc (by simp) (.cells #[.bool f.neg, .slice a3 f.mag.length r3, .slice a4 f.den.length r4] 34)
                have HBA := Lib.hid bA
                clear bA
                have hfl2 : (e.fac ++ (if i = n then [] else [m1F])).length ≤ 49 := by
                  rw [List.length_append]
                  have h9 : (if i = n then ([] : List Fr) else [m1F]).length ≤ 1 := by
                    by_cases h8 : i = n
                    · rw [if_pos h8]; exact Nat.zero_le _
                    · rw [if_neg h8]; exact Nat.le_refl _
                  omega
                go_wp2_with (at_builtin; refine append_fac rfl _ _ rfl rfl (S5.out.below HBA.out) (Nat.le_trans hfl2 (by omega)) (by simp; omega) _ _ rfl f _ _ _ _ _ _ (alloc_two _ _ _) (R5.out.below HBA.out) (fun j hj => ⟨Nat.lt_of_lt_of_le (HE5.out j hj).1 HBA.out.size, (HE5.out j hj).2⟩) ?_; intro fw w6 S6 g6)
                obtain ⟨p11, hp11⟩ : ∃ p, p = w5.heap.size := ⟨_, rfl⟩
                rw [← hp11]
                have hh5 := M5.out.lt
                have F6 := Lib.hid (show B3 w6 p11 34 (.bool f.neg) (.slice a3 f.mag.length r3) (.slice a4 f.den.length r4) by
                  rw [hp11]
                  exact (((B3.new w5 34 (.bool f.neg) (.slice a3 f.mag.length r3) (.slice a4 f.den.length r4)).alloc _)).keptK (Kept.of_grown g6) (fun e9 => by have := S5.out.lt_all _ (.inr (.inr (.inl e9))); omega))
                have M6 := Lib.hid ((M5.out.below HBA.out).keptK (Kept.of_grown g6) (fun _ _ _ _ m e9 => ((S5.out.below HBA.out).off3 m).2 e9))
                have R6 := Lib.hid ((R5.out.below HBA.out).keptS (Kept.of_grown g6) (fun b hb e9 => (HE5.out b hb).2.2.2 e9))
                have BB6 := Lib.hid (show Below B w w6 from (BB5.out.trans (HBA.out.mono hB5)).grown g6 (by have := HBA.out.size; omega) (fun b hb => (S5.out.F.lt b hb).1))
                have S6' := Lib.hid S6
                have hqp : q < p11 := by rw [hp11]; exact S5.out.lt_all _ (.inl (.inl rfl))
                have hhp : h0 < p11 := by rw [hp11]; exact hh5
                clear S6 g6 HBA S5 BB5 M5 R5 HE5 d0 d1 d2 hh5 hB5
                clear hp11
                go_wp2_with fail
                go_loopw [12] (fun jv wi => ∃ (j : Nat) (zs : List (Value × Value)), k ≤ j ∧ j ≤ C ∧ jv = .int .i64 j ∧ Hid (MK w wi h0 (.int .i64 (R : Int)) (.int .i64 (C : Int)) (.slice (some ⟨q, 0, none⟩) N cap)) ∧ Hid (B3 wi p11 34 (.bool f.neg) (.slice a3 f.mag.length r3) (.slice a4 f.den.length r4)) ∧ Hid (RowR wi (.slice a3 f.mag.length r3) f.mag (.slice a4 f.den.length r4) f.den) ∧ Hid (ElS wi B (.slice (some ⟨q, 0, none⟩) N cap) R C ⟨dvP (exG e.g i n) n k j, e.piv, (e.fac ++ (if i = n then [] else [m1F])) ++ [f]⟩ (.slice pa n pc) fw zs (ps' ++ [(.slice a3 f.mag.length r3, .slice a4 f.den.length r4)])) ∧ Hid (Below B w wi)) (fun jv _ => C - (intOf jv).toNat)
                case atStart => exact ⟨k, _, Nat.le_refl _, by omega, rfl, M6, F6, R6, Lib.hid (by rw [dvP_zero]; exact S6'.out), BB6⟩
                case round =>
                  clear M6 F6 R6 S6' BB6
                  obtain ⟨j, zs, hkj, hj, rfl, M, F7, RR, S, BB⟩ := hrel
                  have m0 := M.out.c0
                  have m1 := M.out.c1
                  have m2 := M.out.c2
                  by_cases hlj : j < C
                  · have hnj : n * C + j < N := by have := at_lt hnR hlj; rw [HN.out]; exact this
                    obtain ⟨a5, r5, a6, r6, hc5, hr5, -, -⟩ := elem_at S.out.V' HN.out hnR hlj
                    rw [dvP_at] at hc5 hr5
                    have HGy := Lib.hid (EO.out.ok.ex hil (show n < R from hnR) n j hnR hlj)
                    obtain ⟨y, hy⟩ : ∃ y, y = exG e.g i n n j := ⟨_, rfl⟩
                    rw [← hy] at hc5 hr5 HGy
                    have HY := Lib.hid hy
                    clear hy
                    have HGf := Lib.hid (show okF f = true by rw [HF.out]; exact EO.out.ok i k hil hlt)
                    obtain ⟨Z, hZ⟩ : ∃ Z, Z = divX y f := ⟨_, rfl⟩
                    have HA := Lib.hid (fun W (hW : Below wr.heap.size wr W) => (spec_atE (R : Int) C n j N q cap _ a5 _ r5 a6 _ r6 W hnj hN9 ⟨(hW.cell (p := ⟨q, (n * C + j) * 3, none⟩) (World.block_lt_of_cell? wr _ hc5.1)).trans hc5.1, (hW.cell (p := ⟨q, (n * C + j) * 3 + 1, none⟩) (World.block_lt_of_cell? wr _ hc5.2.1)).trans hc5.2.1, (hW.cell (p := ⟨q, (n * C + j) * 3 + 2, none⟩) (World.block_lt_of_cell? wr _ hc5.2.2)).trans hc5.2.2⟩).mono (R' := fun e w' => e = .returned (.agg #[.bool y.neg, .slice a5 y.mag.length r5, .slice a6 y.den.length r6]) ∧ Below W.heap.size W w' ∧ Below wr.heap.size wr w') (fun e w' ⟨he, hb⟩ => ⟨he, hb, hW.trans (hb.mono hW.size)⟩))
                    have HD := Lib.hid (fun W (hW : Below wr.heap.size wr W) => (spec_divF y f (small_ok HGy.out) (small_ok HGf.out) _ _ _ _ W (hr5.below hW) (RR.out.below hW)).mono (R' := fun e w' => ∃ a c d b, e = .returned (.agg #[.bool Z.neg, .slice a Z.mag.length c, .slice d Z.den.length b]) ∧ OwnR w' wr.heap.size (.slice a Z.mag.length c) Z.mag (.slice d Z.den.length b) Z.den ∧ Below wr.heap.size wr w') (fun e w' ⟨u, v, he, ho, hb⟩ => by
                      rw [← hZ] at he ho
                      obtain ⟨a, c, d, b, rfl, rfl⟩ := ho.slices
                      exact ⟨a, c, d, b, he, ho.base hW.size, hW.trans (hb.mono hW.size)⟩))
                    have HZZ := Lib.hid (show (tabM R C (dvP (exG e.g i n) n k j)).set (n * C + j) Z = tabM R C (dvP (exG e.g i n) n k (j + 1)) by
                      rw [← dvP_step hkj hlj, hZ, HY.out, ex_at e.g i n k, HF.out])
                    obtain ⟨l, hl⟩ : ∃ l, n * C = l := ⟨_, rfl⟩
                    have p1 : (n : Int) * (C : Int) = (l : Int) := by rw [← hl, Int.natCast_mul]
                    have p2 : (l : Int) + (j : Int) = ((l + j : Nat) : Int) := by omega
                    obtain ⟨jj, hjj⟩ : ∃ jj, l + j = jj := ⟨_, rfl⟩
                    rw [hjj] at p2
                    have hjN : jj < N := by rw [← hjj, ← hl]; exact hnj
                    have x1 : (0 : Int) ≤ (jj : Int) := by omega
                    have x2 : (jj : Int) < (N : Int) := by omega
                    have hl9 : l ≤ 576 := by omega
                    have wr1 : IntKind.i64.wrap (l : Int) = (l : Int) := by rw [IntKind.wrap_i64]; omega
                    have wr2 : IntKind.i64.wrap (jj : Int) = (jj : Int) := by rw [IntKind.wrap_i64]; omega
                    have HJ := Lib.hid (show n * C + j = jj by rw [hl, hjj])
                    have VH := Lib.hid (fun W (hW : Below wr.heap.size wr W) => S.out.V'.below hW)
                    have HT := Lib.hid (show ∀ W : World, Below wr.heap.size wr W → ((∃ u0, W.cell? ⟨q, jj * 3, none⟩ = some u0) ∧ (∃ u1, W.cell? ⟨q, jj * 3 + 1, none⟩ = some u1) ∧ (∃ u2, W.cell? ⟨q, jj * 3 + 2, none⟩ = some u2)) ∧ W.frozen? ⟨q, jj * 3, none⟩ = false ∧ W.frozen? ⟨q, jj * 3 + 1, none⟩ = false ∧ W.frozen? ⟨q, jj * 3 + 2, none⟩ = false from fun W hW => by
                      have OK := VH.out W hW
                      obtain ⟨s0, s1, s2⟩ := OK.cells jj (by rw [tabM_len, ← HN.out]; exact hjN) (by rw [OK.len, tabM_len, ← HN.out]; exact hjN)
                      exact ⟨⟨⟨_, s0⟩, ⟨_, s1⟩, ⟨_, s2⟩⟩, OK.frozen _, OK.frozen _, OK.frozen _⟩)
                    have HS := Lib.hid (show ∀ W : World, Below wr.heap.size wr W → (W.cell? ⟨h0, 0, none⟩ = some (.int .i64 (R : Int)) ∧ W.cell? ⟨h0, 1, none⟩ = some (.int .i64 (C : Int)) ∧ W.cell? ⟨h0, 2, none⟩ = some (.slice (some ⟨q, 0, none⟩) N cap) ∧ W.cell? ⟨p11, 0, none⟩ = some (.bool f.neg) ∧ W.cell? ⟨p11, 1, none⟩ = some (.slice a3 f.mag.length r3) ∧ W.cell? ⟨p11, 2, none⟩ = some (.slice a4 f.den.length r4)) from fun W hW => ⟨(M.out.below hW).c0, (M.out.below hW).c1, (M.out.below hW).c2, (F7.out.below hW).c0, (F7.out.below hW).c1, (F7.out.below hW).c2⟩)
                    have f0 := F7.out.c0
                    have f1 := F7.out.c1
                    have f2 := F7.out.c2
                    clear hc5 hr5 hl hjj hZ
                    go_wp2_with fail
                    go_region_held3 (fun w' => w'.cell? ⟨h0, 0, none⟩ = some (.int .i64 (R : Int)) ∧ w'.cell? ⟨h0, 1, none⟩ = some (.int .i64 (C : Int)) ∧ w'.cell? ⟨h0, 2, none⟩ = some (.slice (some ⟨q, 0, none⟩) N cap) ∧ w'.cell? ⟨p11, 0, none⟩ = some (.bool f.neg) ∧ w'.cell? ⟨p11, 1, none⟩ = some (.slice a3 f.mag.length r3) ∧ w'.cell? ⟨p11, 2, none⟩ = some (.slice a4 f.den.length r4))
                      (first | exact HS.out _ (by first | with_reducible exact Below.refl _ _ | with_reducible exact (Below.refl _ _).drew | with_reducible exact bb_a | with_reducible exact bb_b | with_reducible exact bb_m | with_reducible exact bb_s | with_reducible exact bb_d | fail) | exact ⟨(cell_farq (show h0 ≠ q from by omega) _ _ _).trans ((HS.out _ (by first | with_reducible exact Below.refl _ _ | with_reducible exact (Below.refl _ _).drew | with_reducible exact bb_a | with_reducible exact bb_b | with_reducible exact bb_m | with_reducible exact bb_s | with_reducible exact bb_d | fail)).1), (cell_farq (show h0 ≠ q from by omega) _ _ _).trans ((HS.out _ (by first | with_reducible exact Below.refl _ _ | with_reducible exact (Below.refl _ _).drew | with_reducible exact bb_a | with_reducible exact bb_b | with_reducible exact bb_m | with_reducible exact bb_s | with_reducible exact bb_d | fail)).2.1), (cell_farq (show h0 ≠ q from by omega) _ _ _).trans ((HS.out _ (by first | with_reducible exact Below.refl _ _ | with_reducible exact (Below.refl _ _).drew | with_reducible exact bb_a | with_reducible exact bb_b | with_reducible exact bb_m | with_reducible exact bb_s | with_reducible exact bb_d | fail)).2.2.1), (cell_farq (show p11 ≠ q from by omega) _ _ _).trans ((HS.out _ (by first | with_reducible exact Below.refl _ _ | with_reducible exact (Below.refl _ _).drew | with_reducible exact bb_a | with_reducible exact bb_b | with_reducible exact bb_m | with_reducible exact bb_s | with_reducible exact bb_d | fail)).2.2.2.1), (cell_farq (show p11 ≠ q from by omega) _ _ _).trans ((HS.out _ (by first | with_reducible exact Below.refl _ _ | with_reducible exact (Below.refl _ _).drew | with_reducible exact bb_a | with_reducible exact bb_b | with_reducible exact bb_m | with_reducible exact bb_s | with_reducible exact bb_d | fail)).2.2.2.2.1), (cell_farq (show p11 ≠ q from by omega) _ _ _).trans ((HS.out _ (by first | with_reducible exact Below.refl _ _ | with_reducible exact (Below.refl _ _).drew | with_reducible exact bb_a | with_reducible exact bb_b | with_reducible exact bb_m | with_reducible exact bb_s | with_reducible exact bb_d | fail)).2.2.2.2.2)⟩)
                      (first
                        | (go_at_call 123; refine (HD.out _ (by first | with_reducible exact Below.refl _ _ | with_reducible exact (Below.refl _ _).drew | with_reducible exact bb_a | with_reducible exact bb_b | with_reducible exact bb_m | with_reducible exact bb_s | with_reducible exact bb_d | fail)).mono ?_; rintro ee w_s ⟨a_s, c_s, d_s, b_s, rfl, o_s, bb_s⟩; obtain ⟨⟨⟨v0, s0⟩, ⟨v1, s1⟩, ⟨v2, s2⟩⟩, t0, t1, t2⟩ := HT.out _ bb_s)
                        | (go_at_call 96; with_reducible refine (HA.out _ (by first | with_reducible exact Below.refl _ _ | with_reducible exact (Below.refl _ _).drew | with_reducible exact bb_a | with_reducible exact bb_b | with_reducible exact bb_m | with_reducible exact bb_s | with_reducible exact bb_d | fail)).mono ?_; rintro ee w_a ⟨rfl, bw_a, bb_a⟩; obtain ⟨⟨⟨v0, s0⟩, ⟨v1, s1⟩, ⟨v2, s2⟩⟩, t0, t1, t2⟩ := HT.out _ bb_a))
                    all_goals (have lr := o_s.lt)
                    all_goals (have hBr : B ≤ wr.heap.size := (Nat.le_trans HB9.out BB.out.size))
                    all_goals (have L9 := S.out.V.lt)
                    all_goals (have hqr : q < wr.heap.size := (L9 q (.inl rfl)).2)
                    all_goals (have VF := (VH.out _ bb_s).set3 jj Z _ _ (by rw [tabM_len, ← HN.out]; exact hjN) (OwnR.base o_s hBr) (fun a ha _ r r' e1 e2 => by have h3 := (L9 r (.inr ⟨_, List.getElem_mem ha, e1⟩)).2; have h4 := (lr r' e2).1; omega) (fun r e2 => by have h4 := (lr r e2).1; omega))
                    all_goals (have KF := ((kept_set w_s q (jj * 3) (.bool Z.neg)).trans (kept_set _ q (jj * 3 + 1) (.slice a_s Z.mag.length c_s))).trans (kept_set _ q (jj * 3 + 2) (.slice d_s Z.den.length b_s)))
                    all_goals (have WB := (Kept.of_below (S := fun j => j = q) bb_s).trans KF)
                    all_goals (have BF := Lib.hid ((((BB.out.trans (bb_s.mono hBr)).setCell (p := ⟨q, jj * 3, none⟩) (L9 q (.inl rfl)).1 (.bool Z.neg)).setCell (p := ⟨q, jj * 3 + 1, none⟩) (L9 q (.inl rfl)).1 (.slice a_s Z.mag.length c_s)).setCell (p := ⟨q, jj * 3 + 2, none⟩) (L9 q (.inl rfl)).1 (.slice d_s Z.den.length b_s)))
                    all_goals (rw [HJ.out] at HZZ; rw [HZZ.out] at VF)
                    all_goals (have MF := Lib.hid (M.out.keptK WB (not3 S.out.V')); have FF := Lib.hid (F7.out.keptK WB (by omega)); have RF := Lib.hid (RR.out.keptS WB RON.out); have SF := Lib.hid (S.out.cells VF WB (fun b hb => .inl (by rw [hb]; rfl)) (onV_set (n := wr.heap.size) (fun r e2 => (lr r e2).1))))
                    all_goals clear VF KF WB HT HS HA HD VH o_s s0 s1 s2 t0 t1 t2 bb_s m0 m1 m2 f0 f1 f2 lr L9
                    all_goals go_wp2_with fail
                    all_goals exact ⟨⟨j + 1, _, by omega, by omega, by go_num, MF, FF, RF, SF, BF⟩, by simp [intOf]; omega⟩
                  · obtain rfl : j = C := by omega
                    have SX := S.out.reg (dvP_end (exG e.g i n) n k)
                    have SS := Lib.hid SX
                    clear SX S RR F7
                    have HGD := Lib.hid ((EO.out.ok.ex hil hnR).dv hnR hlt (show nilF (exG e.g i n n k) = false by rw [ex_at, ← HF.out]; exact hq0))
                    go_wp2_with fail
                    refine (spec_clear R j N n k q cap B _ zs wr SS.out.V' HN.out hR hC hnR hlt HGD.out (Nat.le_trans HB9.out BB.out.size)).mono ?_
                    rintro ee w8 ⟨⟨vv, rfl⟩, ys, v8, k8, o8⟩
                    have S8 := Lib.hid (SS.out.cells v8 k8 (fun b hb => .inl (by rw [hb]; rfl)) o8)
                    have M8 := Lib.hid (M.out.keptK k8 (not3 SS.out.V'))
                    have BB8 := Lib.hid (below_kept BB.out k8 (Nat.le_trans HB9.out BB.out.size) (fun b hb => by rw [hb]; exact (SS.out.V.lt q (.inl rfl)).1))
                    clear v8 k8 o8 M BB SS m0 m1 m2
                    have hB8 : B ≤ w8.heap.size := (Nat.le_trans HB9.out BB8.out.size)
                    have HBA := Lib.hid ((Below.refl w8.heap.size w8).alloc (Nat.le_refl _) (.cells #[.int .i64 (k : Int)] 3))
                    go_wp2_with (at_builtin; refine append_piv rfl _ _ rfl rfl (S8.out.below HBA.out) (by rw [HNN.out]; omega) (by simp; omega) ⟨w8.heap.size, 0, none⟩ k rfl (cell_one_new _ _ _) ?_; intro pw w9 S9 g9; have m2 := ((M8.out.below HBA.out).keptK (Kept.of_grown g9) (fun _ _ _ _ m e9 => ((S8.out.below HBA.out).off3 m).1 e9)).c2)
                    have M9 := Lib.hid ((M8.out.below HBA.out).keptK (Kept.of_grown g9) (fun _ _ _ _ m e9 => ((S8.out.below HBA.out).off3 m).1 e9))
                    have BB9 := Lib.hid (show Below B w w9 from (BB8.out.trans (HBA.out.mono hB8)).grown g9 (by have := HBA.out.size; omega) (fun b hb => (S8.out.P.lt b hb).1))
                    have HUQ : (⟨clG (dvG (exG e.g i n) n k) n k, e.piv ++ [k], (e.fac ++ (if i = n then [] else [m1F])) ++ [f]⟩ : El) = useE e i k := by unfold useE; rw [HNN.out, HF.out]
                    have S9' := Lib.hid (show ElS w9 B (.slice (some ⟨q, 0, none⟩) N cap) R j (useE e i k) pw fw ys (ps' ++ [(.slice a3 f.mag.length r3, .slice a4 f.den.length r4)]) by rw [← HUQ]; exact S9)
                    clear S9 g9 HBA S8 M8 BB8 HUQ hB8
                    have HFN := Lib.hid (spec_fine (.slice (some ⟨q, 0, none⟩) N cap) (tabM R j (useE e i k).g) w9 S9'.out.V.rats)
                    cases hq9 : fineG R j (useE e i k).g with
                    | true =>
                      have hq9' : fineV (tabM R j (useE e i k).g) = true := hq9
                      rw [hq9'] at HFN
                      go_wp2_with fail
                      refine (HFN.out).mono ?_
                      rintro ee w10 ⟨rfl, b1⟩
                      have SA := Lib.hid (S9'.out.below b1)
                      have MA := Lib.hid (M9.out.below b1)
                      have BA := Lib.hid (BB9.out.trans (b1.mono (Nat.le_trans HB9.out BB9.out.size)))
                      clear b1 m2 S9' M9 BB9 HFN
                      have EU := Lib.hid (show ElOk R j (useE e i k) (k + 1) by have h1 := EO.out.step hlt (by rw [HSE.out]; exact hq9); rw [HSE.out] at h1; exact h1)
                      go_wp2_with fail
                      exact ⟨⟨k + 1, useE e i k, _, _, _, _, by omega, rfl, rfl, by go_num, EU, Lib.hid (by
                        have h1 := HE.out
                        rw [show j - k = (j - (k + 1)) + 1 by omega] at h1
                        unfold runE at h1
                        rw [show j - (j - (k + 1) + 1) = k by omega, HSE.out, if_pos hq9] at h1
                        exact h1), MA, SA, BA⟩, by simp [intOf]; omega⟩
                    | false =>
                      have hq9' : fineV (tabM R j (useE e i k).g) = false := hq9
                      rw [hq9'] at HFN
                      go_wp2_with fail
                      refine (HFN.out).mono ?_
                      rintro ee w10 ⟨rfl, b1⟩
                      have SA := Lib.hid (S9'.out.below b1)
                      have MA := Lib.hid (M9.out.below b1)
                      have BA := Lib.hid (BB9.out.trans (b1.mono (Nat.le_trans HB9.out BB9.out.size)))
                      clear b1 m2 S9' M9 BB9 HFN
                      have HEE := Lib.hid (show useE e i k = E by
                        have h1 := HE.out
                        rw [show j - k = (j - (k + 1)) + 1 by omega] at h1
                        unfold runE at h1
                        rw [show j - (j - (k + 1) + 1) = k by omega, HSE.out, if_neg (by rw [hq9]; intro h; cases h)] at h1
                        exact h1)
                      go_wp2_with fail
                      exact bodyPost_ret (v := .tuple #[pw, fw]) (by simp [results, Tryz.results79, go_sem]) rfl ⟨_, _, _, _, rfl, by rw [← HEE.out]; exact SA.out, BA.out, MA.out.K⟩
              · have he : ((i : Int) != (n : Int)) = true := by unfold bne; rw [show ((i : Int) == (n : Int)) = false by rw [beq_eq_false_iff_ne]; omega]; rfl
                go_wp2_with fail
                refine (spec_m1 _).mono ?_
                rintro ee w3 ⟨ma, mc, md, mb, rfl, om, b1⟩
                have lm := om.lt
                have S3 := S.out.below b1
                have LA := S.out.lt_all
                have SS := Lib.hid S3
                have OM := Lib.hid om
                have BS := Lib.hid (show B ≤ w3.heap.size by have h1 := (Nat.le_trans HB9.out BB.out.size); have h2 := b1.size; omega)
                replace M := Lib.hid (M.out.below b1)
                replace BB := Lib.hid (BB.out.trans (b1.mono (Nat.le_trans HB9.out BB.out.size)))
                have h2s := b1.size
                clear b1 S3 om m0 m1 m2 S
                go_wp2_with (at_builtin; refine append_fac rfl _ _ rfl rfl (SS.out.below ((Below.refl _ _).alloc (Nat.le_refl _) _)) (by omega) (by have := BS.out; simp; omega) _ _ rfl m1F _ _ _ _ _ _ (World.alloc_heap_new _ _) (OM.out.alloc _).row (fun j hj => ⟨by have := (lm j hj).2; simp; omega, fun h1 => by have h3 := (lm j hj).1; have h4 := LA j (.inl (.inl h1)); omega, fun h1 => by have h3 := (lm j hj).1; have h4 := LA j (.inr (.inl h1)); omega, fun h1 => by have h3 := (lm j hj).1; have h4 := LA j (.inr (.inr (.inl h1))); omega⟩) ?_; intro fw w4 S4 g4)
                obtain ⟨ps', hps'⟩ : ∃ ps', ps' = ps ++ [((Value.slice ma m1F.mag.length mc), (Value.slice md m1F.den.length mb))] := ⟨_, rfl⟩
                rw [← hps'] at S4
                have M4 := Lib.hid ((M.out.alloc (.cells #[.bool m1F.neg, .slice ma m1F.mag.length mc, .slice md m1F.den.length mb] 34)).keptK (Kept.of_grown g4) (fun _ _ _ _ m h1 => ((SS.out.below ((Below.refl _ _).alloc (Nat.le_refl _) _)).off3 m).2 h1))
                have BB4 := Lib.hid (show Below B w w4 from (BB.out.alloc BS.out (.cells #[.bool m1F.neg, .slice ma m1F.mag.length mc, .slice md m1F.den.length mb] 34)).grown g4 (by have := BS.out; simp; omega) (fun b hb => (SS.out.F.lt b hb).1))
                have S4' := Lib.hid (show ElS w4 B (.slice (some ⟨q, 0, none⟩) N cap) R C ⟨exP e.g i n 0, e.piv, e.fac ++ (if i = n then [] else [m1F])⟩ (.slice pa n pc) fw xs ps' by rw [exP_zero, if_neg hin]; exact S4)
                clear S4 M BB OM lm LA SS BS g4 h2s hps'
                have hq0' := hq0
                go_wp2_with fail
                go_loopw [9] (fun jv wi => ∃ (j : Nat) (zs : List (Value × Value)), j ≤ C ∧ jv = .int .i64 j ∧ Hid (MK w wi h0 (.int .i64 (R : Int)) (.int .i64 (C : Int)) (.slice (some ⟨q, 0, none⟩) N cap)) ∧ Hid (ElS wi B (.slice (some ⟨q, 0, none⟩) N cap) R C ⟨exP e.g i n j, e.piv, e.fac ++ (if i = n then [] else [m1F])⟩ (.slice pa n pc) fw zs ps') ∧ Hid (Below B w wi)) (fun jv _ => C - (intOf jv).toNat)
                case atStart => exact ⟨0, xs, Nat.zero_le _, rfl, M4, S4', BB4⟩
                case round =>
                  clear M4 S4' BB4
                  obtain ⟨j, xs, hj, rfl, M, S, BB⟩ := hrel
                  have m0 := M.out.c0
                  have m1 := M.out.c1
                  have m2 := M.out.c2
                  by_cases hlj : j < C
                  · have hnj : n * C + j < N := by have := at_lt hnR hlj; rw [HN.out]; exact this
                    have hij : i * C + j < N := by have := at_lt hil hlj; rw [HN.out]; exact this
                    obtain ⟨a3, r3, a4, r4, hc3, hr3, hp3, -⟩ := elem_at S.out.V' HN.out hnR hlj
                    obtain ⟨a5, r5, a6, r6, hc5, hr5, hp5, -⟩ := elem_at S.out.V' HN.out hil hlj
                    have E3 : exP e.g i n j n j = e.g n j := by unfold exP; rw [if_neg (by omega)]
                    have E5 : exP e.g i n j i j = e.g i j := by unfold exP; rw [if_neg (by omega)]
                    rw [E3] at hc3 hr3 hp3
                    rw [E5] at hc5 hr5 hp5
                    obtain ⟨y, hy⟩ : ∃ y, y = e.g n j := ⟨_, rfl⟩
                    obtain ⟨x, hx⟩ : ∃ x, x = e.g i j := ⟨_, rfl⟩
                    rw [← hy] at hc3 hr3 hp3 E3
                    rw [← hx] at hc5 hr5 hp5 E5
                    have HXY := Lib.hid (And.intro hx hy)
                    clear hx hy
                    obtain ⟨l, hl⟩ : ∃ l, i * C = l := ⟨_, rfl⟩
                    have p1 : (i : Int) * (C : Int) = (l : Int) := by rw [← hl, Int.natCast_mul]
                    have p2 : (l : Int) + (j : Int) = ((l + j : Nat) : Int) := by omega
                    obtain ⟨jj, hjj⟩ : ∃ jj, l + j = jj := ⟨_, rfl⟩
                    rw [hjj] at p2
                    obtain ⟨l2, hl2⟩ : ∃ l, n * C = l := ⟨_, rfl⟩
                    have p3 : (n : Int) * (C : Int) = (l2 : Int) := by rw [← hl2, Int.natCast_mul]
                    have p4 : (l2 : Int) + (j : Int) = ((l2 + j : Nat) : Int) := by omega
                    obtain ⟨jn, hjn⟩ : ∃ jj, l2 + j = jj := ⟨_, rfl⟩
                    rw [hjn] at p4
                    have HJ := Lib.hid (show i * C + j = jj by rw [hl, hjj])
                    have HJ2 := Lib.hid (show n * C + j = jn by rw [hl2, hjn])
                    rw [HJ.out] at hc5 hij
                    rw [HJ2.out] at hc3 hnj
                    have hl9 : l ≤ 576 := by omega
                    have hl8 : l2 ≤ 576 := by omega
                    have x1 : (0 : Int) ≤ (jj : Int) := by omega
                    have x2 : (jj : Int) < (N : Int) := by omega
                    have x3 : (0 : Int) ≤ (jn : Int) := by omega
                    have x4 : (jn : Int) < (N : Int) := by omega
                    have wr1 : IntKind.i64.wrap (l : Int) = (l : Int) := by rw [IntKind.wrap_i64]; omega
                    have wr2 : IntKind.i64.wrap (jj : Int) = (jj : Int) := by rw [IntKind.wrap_i64]; omega
                    have wr3 : IntKind.i64.wrap (l2 : Int) = (l2 : Int) := by rw [IntKind.wrap_i64]; omega
                    have wr4 : IntKind.i64.wrap (jn : Int) = (jn : Int) := by rw [IntKind.wrap_i64]; omega
                    have HP3 := Lib.hid hp3
                    have HP5 := Lib.hid hp5
                    obtain ⟨p10, hp10⟩ : ∃ p, p = wr.heap.size := ⟨_, rfl⟩
                    obtain ⟨W1, hW1⟩ : ∃ x9, x9 = wr.alloc (.cells #[.bool x.neg, .slice a5 x.mag.length r5, .slice a6 x.den.length r6] 34) := ⟨_, rfl⟩
                    have b1 := (show Below wr.heap.size wr W1 by rw [hW1]; exact (Below.refl _ _).alloc (Nat.le_refl _) _)
                    have HW := Lib.hid hW1.symm
                    have HP := Lib.hid hp10.symm
                    have hqp : q < p10 := by rw [hp10]; exact S.out.lt_all _ (.inl (.inl rfl))
                    have hhp : h0 < p10 := by rw [hp10]; exact M.out.lt
                    have F7 := Lib.hid (show B3 W1 p10 34 (.bool x.neg) (.slice a5 x.mag.length r5) (.slice a6 x.den.length r6) by rw [hW1, hp10]; exact B3.new _ _ _ _ _)
                    have S1 := Lib.hid (S.out.below b1)
                    have M1 := Lib.hid (M.out.below b1)
                    have BB1 := Lib.hid (BB.out.trans (b1.mono (Nat.le_trans HB9.out BB.out.size)))
                    clear hW1 hp10
                    have y0 := hc5.1
                    have y1 := hc5.2.1
                    have y2 := hc5.2.2
                    go_upto_region 17 with fail
                    clear y0 y1 y2 m0 m1 m2
                    rw [HW.out, HP.out]
                    clear HW HP S M BB
                    have OK := S1.out.V'
                    have s0 := (b1.cell (p := ⟨q, jj * 3, none⟩) (World.block_lt_of_cell? wr _ hc5.1)).trans hc5.1
                    have s1 := (b1.cell (p := ⟨q, jj * 3 + 1, none⟩) (World.block_lt_of_cell? wr _ hc5.2.1)).trans hc5.2.1
                    have s2 := (b1.cell (p := ⟨q, jj * 3 + 2, none⟩) (World.block_lt_of_cell? wr _ hc5.2.2)).trans hc5.2.2
                    have u0 := (b1.cell (p := ⟨q, jn * 3, none⟩) (World.block_lt_of_cell? wr _ hc3.1)).trans hc3.1
                    have u1 := (b1.cell (p := ⟨q, jn * 3 + 1, none⟩) (World.block_lt_of_cell? wr _ hc3.2.1)).trans hc3.2.1
                    have u2 := (b1.cell (p := ⟨q, jn * 3 + 2, none⟩) (World.block_lt_of_cell? wr _ hc3.2.2)).trans hc3.2.2
                    have t0 := OK.frozen (jj * 3)
                    have t1 := OK.frozen (jj * 3 + 1)
                    have t2 := OK.frozen (jj * 3 + 2)
                    have m0 := M1.out.c0
                    have m1 := M1.out.c1
                    have m2 := M1.out.c2
                    have HB1 := Lib.hid b1
                    have HC3 := Lib.hid hc3
                    have HC5 := Lib.hid hc5
                    clear b1 hc3 hc5 hr3 hr5 hp3 hp5 OK
                    go_region
                    clear s0 s1 s2 u0 u1 u2 t0 t1 t2 m0 m1 m2
                    obtain ⟨ys, SWV, SWO⟩ := swap_at S1.out.V' hil hnR hlj HP5.out HP3.out HJ.out HJ2.out
                    have KF := kept6 W1 q jj jn (.bool y.neg) (.slice a3 y.mag.length r3) (.slice a4 y.den.length r4) (.bool x.neg) (.slice a5 x.mag.length r5) (.slice a6 x.den.length r6)
                    rw [E3, E5] at SWV
                    dsimp only at SWV
                    rw [show ((tabM R C (exP e.g i n j)).set (i * C + j) y).set (n * C + j) x = tabM R C (exP e.g i n (j + 1)) by rw [HXY.out.2, HXY.out.1]; exact exP_step hil hnR hlj] at SWV
                    have SW := Lib.hid (S1.out.swapped SWV SWO KF)
                    have MW := Lib.hid (M1.out.keptK KF (not3 S1.out.V'))
                    have BW := Lib.hid (below_kept BB1.out KF (Nat.le_trans HB9.out BB1.out.size) (fun b hb => by rw [hb]; exact (S1.out.V'.lt q (.inl rfl)).1))
                    have K3 := kept3 W1 q jj (.bool y.neg) (.slice a3 y.mag.length r3) (.slice a4 y.den.length r4)
                    have M2 := M1.out.keptK K3 (not3 S1.out.V')
                    have F2 := F7.out.keptK K3 (by omega)
                    have m0 := M2.c0
                    have m1 := M2.c1
                    have m2 := M2.c2
                    have f0 := F2.c0
                    have f1 := F2.c1
                    have f2 := F2.c2
                    obtain ⟨⟨v0, s0⟩, ⟨v1, s1⟩, ⟨v2, s2⟩, t0, t1, t2⟩ := S1.out.V'.after3 jj jn (.bool y.neg) (.slice a3 y.mag.length r3) (.slice a4 y.den.length r4) (by rw [tabM_len, ← HN.out]; exact hnj) rfl
                    clear SWV SWO KF K3 M2 F2 S1 M1 BB1 F7
                    generalize ((W1.setCell ⟨q, jj * 3, none⟩ (.bool y.neg)).setCell ⟨q, jj * 3 + 1, none⟩ (.slice a3 y.mag.length r3)).setCell ⟨q, jj * 3 + 2, none⟩ (.slice a4 y.den.length r4) = W2 at SW MW BW m0 m1 m2 f0 f1 f2 s0 s1 s2 t0 t1 t2 ⊢
                    go_wp2_with fail
                    exact ⟨⟨j + 1, ys, by omega, by go_num, Lib.hid MW.out.drew, Lib.hid SW.out.drew, Lib.hid BW.out.drew⟩, by simp [intOf]; omega⟩
                  · have hjC : C = j := by omega
                    subst hjC
                    have SX := S.out.reg (exP_end e.g i n)
                    clear S
                    go_wp2_with fail
                    have hnk : n * C + k < N := by have := at_lt hnR hlt; rw [HN.out]; exact this
                    obtain ⟨a3, r3, a4, r4, hc3, hr3, hp3, ho3⟩ := elem_at SX.V' HN.out hnR hlt
                    have E3 : exG e.g i n n k = f := (ex_at e.g i n k).trans HF.out.symm
                    rw [E3] at hc3 hr3 hp3 ho3
                    obtain ⟨hj9, hp3⟩ := hp3
                    have HE3 := SX.elem hj9
                    rw [hp3] at HE3
                    have HAT := Lib.hid (spec_atE (R : Int) C n k N q cap _ a3 _ r3 a4 _ r4 wr hnk hN9 hc3)
                    have R3 := Lib.hid hr3
                    have RON := Lib.hid (fun b hb => (ho3 b hb).1)
                    have HE3 := Lib.hid HE3
                    have SS := Lib.hid SX
                    have m0 := M.out.c0
                    have m1 := M.out.c1
                    have m2 := M.out.c2
                    clear hc3 hr3 hp3 ho3 hnk hj9 SX
                    go_wp2_with fail
                    refine (HAT.out).mono ?_
                    rintro ee w5 ⟨rfl, b5⟩
                    have HE5 := Lib.hid (fun j hj => (⟨Nat.lt_of_lt_of_le (HE3.out j hj).1 b5.size, (HE3.out j hj).2⟩ : j < w5.heap.size ∧ _))
                    have S5 := Lib.hid (SS.out.below b5)
                    have BB5 := Lib.hid (BB.out.trans (b5.mono (Nat.le_trans HB9.out BB.out.size)))
                    have M5 := Lib.hid (M.out.below b5)
                    have R5 := Lib.hid (R3.out.below b5)
                    clear b5 HAT HE3 SS BB M R3 m0 m1 m2
                    have hB5 : B ≤ w5.heap.size := (Nat.le_trans HB9.out BB5.out.size)
                    have d0 := (B3.new w5 34 (.bool f.neg) (.slice a3 f.mag.length r3) (.slice a4 f.den.length r4)).c0
                    have d1 := (B3.new w5 34 (.bool f.neg) (.slice a3 f.mag.length r3) (.slice a4 f.den.length r4)).c1
                    have d2 := (B3.new w5 34 (.bool f.neg) (.slice a3 f.mag.length r3) (.slice a4 f.den.length r4)).c2
                    have bA := ((Below.refl w5.heap.size w5).alloc (Nat.le_refl _) (.cells #[.bool f.neg, .slice a3 f.mag.length r3, .slice a4 f.den.length r4] 34)).alloc (by simp) (.cells #[.bool f.neg, .slice a3 f.mag.length r3, .slice a4 f.den.length r4] 34)
                    have HBA := Lib.hid bA
                    clear bA
                    have hfl2 : (e.fac ++ (if i = n then [] else [m1F])).length ≤ 49 := by
                      rw [List.length_append]
                      have h9 : (if i = n then ([] : List Fr) else [m1F]).length ≤ 1 := by
                        by_cases h8 : i = n
                        · rw [if_pos h8]; exact Nat.zero_le _
                        · rw [if_neg h8]; exact Nat.le_refl _
                      omega
                    go_wp2_with (at_builtin; refine append_fac rfl _ _ rfl rfl (S5.out.below HBA.out) (Nat.le_trans hfl2 (by omega)) (by simp; omega) _ _ rfl f _ _ _ _ _ _ (alloc_two _ _ _) (R5.out.below HBA.out) (fun j hj => ⟨Nat.lt_of_lt_of_le (HE5.out j hj).1 HBA.out.size, (HE5.out j hj).2⟩) ?_; intro fw w6 S6 g6)
                    obtain ⟨p11, hp11⟩ : ∃ p, p = w5.heap.size := ⟨_, rfl⟩
                    rw [← hp11]
                    have hh5 := M5.out.lt
                    have F6 := Lib.hid (show B3 w6 p11 34 (.bool f.neg) (.slice a3 f.mag.length r3) (.slice a4 f.den.length r4) by
                      rw [hp11]
                      exact (((B3.new w5 34 (.bool f.neg) (.slice a3 f.mag.length r3) (.slice a4 f.den.length r4)).alloc _)).keptK (Kept.of_grown g6) (fun e9 => by have := S5.out.lt_all _ (.inr (.inr (.inl e9))); omega))
                    have M6 := Lib.hid ((M5.out.below HBA.out).keptK (Kept.of_grown g6) (fun _ _ _ _ m e9 => ((S5.out.below HBA.out).off3 m).2 e9))
                    have R6 := Lib.hid ((R5.out.below HBA.out).keptS (Kept.of_grown g6) (fun b hb e9 => (HE5.out b hb).2.2.2 e9))
                    have BB6 := Lib.hid (show Below B w w6 from (BB5.out.trans (HBA.out.mono hB5)).grown g6 (by have := HBA.out.size; omega) (fun b hb => (S5.out.F.lt b hb).1))
                    have S6' := Lib.hid S6
                    have hqp : q < p11 := by rw [hp11]; exact S5.out.lt_all _ (.inl (.inl rfl))
                    have hhp : h0 < p11 := by rw [hp11]; exact hh5
                    clear S6 g6 HBA S5 BB5 M5 R5 HE5 d0 d1 d2 hh5 hB5
                    clear hp11
                    go_wp2_with fail
                    go_loopw [12] (fun jv wi => ∃ (j : Nat) (zs : List (Value × Value)), k ≤ j ∧ j ≤ C ∧ jv = .int .i64 j ∧ Hid (MK w wi h0 (.int .i64 (R : Int)) (.int .i64 (C : Int)) (.slice (some ⟨q, 0, none⟩) N cap)) ∧ Hid (B3 wi p11 34 (.bool f.neg) (.slice a3 f.mag.length r3) (.slice a4 f.den.length r4)) ∧ Hid (RowR wi (.slice a3 f.mag.length r3) f.mag (.slice a4 f.den.length r4) f.den) ∧ Hid (ElS wi B (.slice (some ⟨q, 0, none⟩) N cap) R C ⟨dvP (exG e.g i n) n k j, e.piv, (e.fac ++ (if i = n then [] else [m1F])) ++ [f]⟩ (.slice pa n pc) fw zs (ps' ++ [(.slice a3 f.mag.length r3, .slice a4 f.den.length r4)])) ∧ Hid (Below B w wi)) (fun jv _ => C - (intOf jv).toNat)
                    case atStart => exact ⟨k, _, Nat.le_refl _, by omega, rfl, M6, F6, R6, Lib.hid (by rw [dvP_zero]; exact S6'.out), BB6⟩
                    case round =>
                      clear M6 F6 R6 S6' BB6
                      obtain ⟨j, zs, hkj, hj, rfl, M, F7, RR, S, BB⟩ := hrel
                      have m0 := M.out.c0
                      have m1 := M.out.c1
                      have m2 := M.out.c2
                      by_cases hlj : j < C
                      · have hnj : n * C + j < N := by have := at_lt hnR hlj; rw [HN.out]; exact this
                        obtain ⟨a5, r5, a6, r6, hc5, hr5, -, -⟩ := elem_at S.out.V' HN.out hnR hlj
                        rw [dvP_at] at hc5 hr5
                        have HGy := Lib.hid (EO.out.ok.ex hil (show n < R from hnR) n j hnR hlj)
                        obtain ⟨y, hy⟩ : ∃ y, y = exG e.g i n n j := ⟨_, rfl⟩
                        rw [← hy] at hc5 hr5 HGy
                        have HY := Lib.hid hy
                        clear hy
                        have HGf := Lib.hid (show okF f = true by rw [HF.out]; exact EO.out.ok i k hil hlt)
                        obtain ⟨Z, hZ⟩ : ∃ Z, Z = divX y f := ⟨_, rfl⟩
                        have HA := Lib.hid (fun W (hW : Below wr.heap.size wr W) => (spec_atE (R : Int) C n j N q cap _ a5 _ r5 a6 _ r6 W hnj hN9 ⟨(hW.cell (p := ⟨q, (n * C + j) * 3, none⟩) (World.block_lt_of_cell? wr _ hc5.1)).trans hc5.1, (hW.cell (p := ⟨q, (n * C + j) * 3 + 1, none⟩) (World.block_lt_of_cell? wr _ hc5.2.1)).trans hc5.2.1, (hW.cell (p := ⟨q, (n * C + j) * 3 + 2, none⟩) (World.block_lt_of_cell? wr _ hc5.2.2)).trans hc5.2.2⟩).mono (R' := fun e w' => e = .returned (.agg #[.bool y.neg, .slice a5 y.mag.length r5, .slice a6 y.den.length r6]) ∧ Below W.heap.size W w' ∧ Below wr.heap.size wr w') (fun e w' ⟨he, hb⟩ => ⟨he, hb, hW.trans (hb.mono hW.size)⟩))
                        have HD := Lib.hid (fun W (hW : Below wr.heap.size wr W) => (spec_divF y f (small_ok HGy.out) (small_ok HGf.out) _ _ _ _ W (hr5.below hW) (RR.out.below hW)).mono (R' := fun e w' => ∃ a c d b, e = .returned (.agg #[.bool Z.neg, .slice a Z.mag.length c, .slice d Z.den.length b]) ∧ OwnR w' wr.heap.size (.slice a Z.mag.length c) Z.mag (.slice d Z.den.length b) Z.den ∧ Below wr.heap.size wr w') (fun e w' ⟨u, v, he, ho, hb⟩ => by
                          rw [← hZ] at he ho
                          obtain ⟨a, c, d, b, rfl, rfl⟩ := ho.slices
                          exact ⟨a, c, d, b, he, ho.base hW.size, hW.trans (hb.mono hW.size)⟩))
                        have HZZ := Lib.hid (show (tabM R C (dvP (exG e.g i n) n k j)).set (n * C + j) Z = tabM R C (dvP (exG e.g i n) n k (j + 1)) by
                          rw [← dvP_step hkj hlj, hZ, HY.out, ex_at e.g i n k, HF.out])
                        obtain ⟨l, hl⟩ : ∃ l, n * C = l := ⟨_, rfl⟩
                        have p1 : (n : Int) * (C : Int) = (l : Int) := by rw [← hl, Int.natCast_mul]
                        have p2 : (l : Int) + (j : Int) = ((l + j : Nat) : Int) := by omega
                        obtain ⟨jj, hjj⟩ : ∃ jj, l + j = jj := ⟨_, rfl⟩
                        rw [hjj] at p2
                        have hjN : jj < N := by rw [← hjj, ← hl]; exact hnj
                        have x1 : (0 : Int) ≤ (jj : Int) := by omega
                        have x2 : (jj : Int) < (N : Int) := by omega
                        have hl9 : l ≤ 576 := by omega
                        have wr1 : IntKind.i64.wrap (l : Int) = (l : Int) := by rw [IntKind.wrap_i64]; omega
                        have wr2 : IntKind.i64.wrap (jj : Int) = (jj : Int) := by rw [IntKind.wrap_i64]; omega
                        have HJ := Lib.hid (show n * C + j = jj by rw [hl, hjj])
                        have VH := Lib.hid (fun W (hW : Below wr.heap.size wr W) => S.out.V'.below hW)
                        have HT := Lib.hid (show ∀ W : World, Below wr.heap.size wr W → ((∃ u0, W.cell? ⟨q, jj * 3, none⟩ = some u0) ∧ (∃ u1, W.cell? ⟨q, jj * 3 + 1, none⟩ = some u1) ∧ (∃ u2, W.cell? ⟨q, jj * 3 + 2, none⟩ = some u2)) ∧ W.frozen? ⟨q, jj * 3, none⟩ = false ∧ W.frozen? ⟨q, jj * 3 + 1, none⟩ = false ∧ W.frozen? ⟨q, jj * 3 + 2, none⟩ = false from fun W hW => by
                          have OK := VH.out W hW
                          obtain ⟨s0, s1, s2⟩ := OK.cells jj (by rw [tabM_len, ← HN.out]; exact hjN) (by rw [OK.len, tabM_len, ← HN.out]; exact hjN)
                          exact ⟨⟨⟨_, s0⟩, ⟨_, s1⟩, ⟨_, s2⟩⟩, OK.frozen _, OK.frozen _, OK.frozen _⟩)
                        have HS := Lib.hid (show ∀ W : World, Below wr.heap.size wr W → (W.cell? ⟨h0, 0, none⟩ = some (.int .i64 (R : Int)) ∧ W.cell? ⟨h0, 1, none⟩ = some (.int .i64 (C : Int)) ∧ W.cell? ⟨h0, 2, none⟩ = some (.slice (some ⟨q, 0, none⟩) N cap) ∧ W.cell? ⟨p11, 0, none⟩ = some (.bool f.neg) ∧ W.cell? ⟨p11, 1, none⟩ = some (.slice a3 f.mag.length r3) ∧ W.cell? ⟨p11, 2, none⟩ = some (.slice a4 f.den.length r4)) from fun W hW => ⟨(M.out.below hW).c0, (M.out.below hW).c1, (M.out.below hW).c2, (F7.out.below hW).c0, (F7.out.below hW).c1, (F7.out.below hW).c2⟩)
                        have f0 := F7.out.c0
                        have f1 := F7.out.c1
                        have f2 := F7.out.c2
                        clear hc5 hr5 hl hjj hZ
                        go_wp2_with fail
                        go_region_held3 (fun w' => w'.cell? ⟨h0, 0, none⟩ = some (.int .i64 (R : Int)) ∧ w'.cell? ⟨h0, 1, none⟩ = some (.int .i64 (C : Int)) ∧ w'.cell? ⟨h0, 2, none⟩ = some (.slice (some ⟨q, 0, none⟩) N cap) ∧ w'.cell? ⟨p11, 0, none⟩ = some (.bool f.neg) ∧ w'.cell? ⟨p11, 1, none⟩ = some (.slice a3 f.mag.length r3) ∧ w'.cell? ⟨p11, 2, none⟩ = some (.slice a4 f.den.length r4))
                          (first | exact HS.out _ (by first | with_reducible exact Below.refl _ _ | with_reducible exact (Below.refl _ _).drew | with_reducible exact bb_a | with_reducible exact bb_b | with_reducible exact bb_m | with_reducible exact bb_s | with_reducible exact bb_d | fail) | exact ⟨(cell_farq (show h0 ≠ q from by omega) _ _ _).trans ((HS.out _ (by first | with_reducible exact Below.refl _ _ | with_reducible exact (Below.refl _ _).drew | with_reducible exact bb_a | with_reducible exact bb_b | with_reducible exact bb_m | with_reducible exact bb_s | with_reducible exact bb_d | fail)).1), (cell_farq (show h0 ≠ q from by omega) _ _ _).trans ((HS.out _ (by first | with_reducible exact Below.refl _ _ | with_reducible exact (Below.refl _ _).drew | with_reducible exact bb_a | with_reducible exact bb_b | with_reducible exact bb_m | with_reducible exact bb_s | with_reducible exact bb_d | fail)).2.1), (cell_farq (show h0 ≠ q from by omega) _ _ _).trans ((HS.out _ (by first | with_reducible exact Below.refl _ _ | with_reducible exact (Below.refl _ _).drew | with_reducible exact bb_a | with_reducible exact bb_b | with_reducible exact bb_m | with_reducible exact bb_s | with_reducible exact bb_d | fail)).2.2.1), (cell_farq (show p11 ≠ q from by omega) _ _ _).trans ((HS.out _ (by first | with_reducible exact Below.refl _ _ | with_reducible exact (Below.refl _ _).drew | with_reducible exact bb_a | with_reducible exact bb_b | with_reducible exact bb_m | with_reducible exact bb_s | with_reducible exact bb_d | fail)).2.2.2.1), (cell_farq (show p11 ≠ q from by omega) _ _ _).trans ((HS.out _ (by first | with_reducible exact Below.refl _ _ | with_reducible exact (Below.refl _ _).drew | with_reducible exact bb_a | with_reducible exact bb_b | with_reducible exact bb_m | with_reducible exact bb_s | with_reducible exact bb_d | fail)).2.2.2.2.1), (cell_farq (show p11 ≠ q from by omega) _ _ _).trans ((HS.out _ (by first | with_reducible exact Below.refl _ _ | with_reducible exact (Below.refl _ _).drew | with_reducible exact bb_a | with_reducible exact bb_b | with_reducible exact bb_m | with_reducible exact bb_s | with_reducible exact bb_d | fail)).2.2.2.2.2)⟩)
                          (first
                            | (go_at_call 123; refine (HD.out _ (by first | with_reducible exact Below.refl _ _ | with_reducible exact (Below.refl _ _).drew | with_reducible exact bb_a | with_reducible exact bb_b | with_reducible exact bb_m | with_reducible exact bb_s | with_reducible exact bb_d | fail)).mono ?_; rintro ee w_s ⟨a_s, c_s, d_s, b_s, rfl, o_s, bb_s⟩; obtain ⟨⟨⟨v0, s0⟩, ⟨v1, s1⟩, ⟨v2, s2⟩⟩, t0, t1, t2⟩ := HT.out _ bb_s)
                            | (go_at_call 96; with_reducible refine (HA.out _ (by first | with_reducible exact Below.refl _ _ | with_reducible exact (Below.refl _ _).drew | with_reducible exact bb_a | with_reducible exact bb_b | with_reducible exact bb_m | with_reducible exact bb_s | with_reducible exact bb_d | fail)).mono ?_; rintro ee w_a ⟨rfl, bw_a, bb_a⟩; obtain ⟨⟨⟨v0, s0⟩, ⟨v1, s1⟩, ⟨v2, s2⟩⟩, t0, t1, t2⟩ := HT.out _ bb_a))
                        all_goals (have lr := o_s.lt)
                        all_goals (have hBr : B ≤ wr.heap.size := (Nat.le_trans HB9.out BB.out.size))
                        all_goals (have L9 := S.out.V.lt)
                        all_goals (have hqr : q < wr.heap.size := (L9 q (.inl rfl)).2)
                        all_goals (have VF := (VH.out _ bb_s).set3 jj Z _ _ (by rw [tabM_len, ← HN.out]; exact hjN) (OwnR.base o_s hBr) (fun a ha _ r r' e1 e2 => by have h3 := (L9 r (.inr ⟨_, List.getElem_mem ha, e1⟩)).2; have h4 := (lr r' e2).1; omega) (fun r e2 => by have h4 := (lr r e2).1; omega))
                        all_goals (have KF := ((kept_set w_s q (jj * 3) (.bool Z.neg)).trans (kept_set _ q (jj * 3 + 1) (.slice a_s Z.mag.length c_s))).trans (kept_set _ q (jj * 3 + 2) (.slice d_s Z.den.length b_s)))
                        all_goals (have WB := (Kept.of_below (S := fun j => j = q) bb_s).trans KF)
                        all_goals (have BF := Lib.hid ((((BB.out.trans (bb_s.mono hBr)).setCell (p := ⟨q, jj * 3, none⟩) (L9 q (.inl rfl)).1 (.bool Z.neg)).setCell (p := ⟨q, jj * 3 + 1, none⟩) (L9 q (.inl rfl)).1 (.slice a_s Z.mag.length c_s)).setCell (p := ⟨q, jj * 3 + 2, none⟩) (L9 q (.inl rfl)).1 (.slice d_s Z.den.length b_s)))
                        all_goals (rw [HJ.out] at HZZ; rw [HZZ.out] at VF)
                        all_goals (have MF := Lib.hid (M.out.keptK WB (not3 S.out.V')); have FF := Lib.hid (F7.out.keptK WB (by omega)); have RF := Lib.hid (RR.out.keptS WB RON.out); have SF := Lib.hid (S.out.cells VF WB (fun b hb => .inl (by rw [hb]; rfl)) (onV_set (n := wr.heap.size) (fun r e2 => (lr r e2).1))))
                        all_goals clear VF KF WB HT HS HA HD VH o_s s0 s1 s2 t0 t1 t2 bb_s m0 m1 m2 f0 f1 f2 lr L9
                        all_goals go_wp2_with fail
                        all_goals exact ⟨⟨j + 1, _, by omega, by omega, by go_num, MF, FF, RF, SF, BF⟩, by simp [intOf]; omega⟩
                      · obtain rfl : j = C := by omega
                        have SX := S.out.reg (dvP_end (exG e.g i n) n k)
                        have SS := Lib.hid SX
                        clear SX S RR F7
                        have HGD := Lib.hid ((EO.out.ok.ex hil hnR).dv hnR hlt (show nilF (exG e.g i n n k) = false by rw [ex_at, ← HF.out]; exact hq0))
                        go_wp2_with fail
                        refine (spec_clear R j N n k q cap B _ zs wr SS.out.V' HN.out hR hC hnR hlt HGD.out (Nat.le_trans HB9.out BB.out.size)).mono ?_
                        rintro ee w8 ⟨⟨vv, rfl⟩, ys, v8, k8, o8⟩
                        have S8 := Lib.hid (SS.out.cells v8 k8 (fun b hb => .inl (by rw [hb]; rfl)) o8)
                        have M8 := Lib.hid (M.out.keptK k8 (not3 SS.out.V'))
                        have BB8 := Lib.hid (below_kept BB.out k8 (Nat.le_trans HB9.out BB.out.size) (fun b hb => by rw [hb]; exact (SS.out.V.lt q (.inl rfl)).1))
                        clear v8 k8 o8 M BB SS m0 m1 m2
                        have hB8 : B ≤ w8.heap.size := (Nat.le_trans HB9.out BB8.out.size)
                        have HBA := Lib.hid ((Below.refl w8.heap.size w8).alloc (Nat.le_refl _) (.cells #[.int .i64 (k : Int)] 3))
                        go_wp2_with (at_builtin; refine append_piv rfl _ _ rfl rfl (S8.out.below HBA.out) (by rw [HNN.out]; omega) (by simp; omega) ⟨w8.heap.size, 0, none⟩ k rfl (cell_one_new _ _ _) ?_; intro pw w9 S9 g9; have m2 := ((M8.out.below HBA.out).keptK (Kept.of_grown g9) (fun _ _ _ _ m e9 => ((S8.out.below HBA.out).off3 m).1 e9)).c2)
                        have M9 := Lib.hid ((M8.out.below HBA.out).keptK (Kept.of_grown g9) (fun _ _ _ _ m e9 => ((S8.out.below HBA.out).off3 m).1 e9))
                        have BB9 := Lib.hid (show Below B w w9 from (BB8.out.trans (HBA.out.mono hB8)).grown g9 (by have := HBA.out.size; omega) (fun b hb => (S8.out.P.lt b hb).1))
                        have HUQ : (⟨clG (dvG (exG e.g i n) n k) n k, e.piv ++ [k], (e.fac ++ (if i = n then [] else [m1F])) ++ [f]⟩ : El) = useE e i k := by unfold useE; rw [HNN.out, HF.out]
                        have S9' := Lib.hid (show ElS w9 B (.slice (some ⟨q, 0, none⟩) N cap) R j (useE e i k) pw fw ys (ps' ++ [(.slice a3 f.mag.length r3, .slice a4 f.den.length r4)]) by rw [← HUQ]; exact S9)
                        clear S9 g9 HBA S8 M8 BB8 HUQ hB8
                        have HFN := Lib.hid (spec_fine (.slice (some ⟨q, 0, none⟩) N cap) (tabM R j (useE e i k).g) w9 S9'.out.V.rats)
                        cases hq9 : fineG R j (useE e i k).g with
                        | true =>
                          have hq9' : fineV (tabM R j (useE e i k).g) = true := hq9
                          rw [hq9'] at HFN
                          go_wp2_with fail
                          refine (HFN.out).mono ?_
                          rintro ee w10 ⟨rfl, b1⟩
                          have SA := Lib.hid (S9'.out.below b1)
                          have MA := Lib.hid (M9.out.below b1)
                          have BA := Lib.hid (BB9.out.trans (b1.mono (Nat.le_trans HB9.out BB9.out.size)))
                          clear b1 m2 S9' M9 BB9 HFN
                          have EU := Lib.hid (show ElOk R j (useE e i k) (k + 1) by have h1 := EO.out.step hlt (by rw [HSE.out]; exact hq9); rw [HSE.out] at h1; exact h1)
                          go_wp2_with fail
                          exact ⟨⟨k + 1, useE e i k, _, _, _, _, by omega, rfl, rfl, by go_num, EU, Lib.hid (by
                            have h1 := HE.out
                            rw [show j - k = (j - (k + 1)) + 1 by omega] at h1
                            unfold runE at h1
                            rw [show j - (j - (k + 1) + 1) = k by omega, HSE.out, if_pos hq9] at h1
                            exact h1), MA, SA, BA⟩, by simp [intOf]; omega⟩
                        | false =>
                          have hq9' : fineV (tabM R j (useE e i k).g) = false := hq9
                          rw [hq9'] at HFN
                          go_wp2_with fail
                          refine (HFN.out).mono ?_
                          rintro ee w10 ⟨rfl, b1⟩
                          have SA := Lib.hid (S9'.out.below b1)
                          have MA := Lib.hid (M9.out.below b1)
                          have BA := Lib.hid (BB9.out.trans (b1.mono (Nat.le_trans HB9.out BB9.out.size)))
                          clear b1 m2 S9' M9 BB9 HFN
                          have HEE := Lib.hid (show useE e i k = E by
                            have h1 := HE.out
                            rw [show j - k = (j - (k + 1)) + 1 by omega] at h1
                            unfold runE at h1
                            rw [show j - (j - (k + 1) + 1) = k by omega, HSE.out, if_neg (by rw [hq9]; intro h; cases h)] at h1
                            exact h1)
                          go_wp2_with fail
                          exact bodyPost_ret (v := .tuple #[pw, fw]) (by simp [results, Tryz.results79, go_sem]) rfl ⟨_, _, _, _, rfl, by rw [← HEE.out]; exact SA.out, BA.out, MA.out.K⟩
          · obtain rfl : i = R := by omega
            have HSE := Lib.hid (show stepE i e k = e by
              unfold stepE
              rw [if_pos (by rw [HNN.out]; exact hnR), if_pos (by rw [HNN.out]; exact firstR_of hni (Nat.le_refl _) NI.out (fun h => by omega))])
            have HFE := Lib.hid ((fineG_iff EO.out.ok.good).2 EO.out.ok)
            have heR : ((i : Int) == (i : Int)) = true := by rw [beq_iff_eq]
            go_wp2_with fail
            exact ⟨⟨k + 1, e, _, fv, xs, ps, by omega, rfl, rfl, by go_num, Lib.hid EO.out.same, Lib.hid (by
              have h1 := HE.out
              rw [show C - k = (C - (k + 1)) + 1 by omega] at h1
              unfold runE at h1
              rw [show C - (C - (k + 1) + 1) = k by omega, HSE.out, if_pos HFE.out] at h1
              exact h1), M, S, BB⟩, by simp [intOf]; omega⟩
      · have HEE := Lib.hid (show e = E by rw [← HE.out]; exact (runE_full (by rw [HNN.out]; exact hnR) ((fineG_iff EO.out.ok.good).2 EO.out.ok) _).symm)
        subst hpv
        go_wp2_with fail
        exact bodyPost_ret (v := .tuple #[.slice pa n pc, fv]) (by simp [results, Tryz.results79, go_sem]) rfl ⟨_, _, xs, ps, rfl, by rw [← HEE.out]; exact S.out, BB.out, M.out.K⟩
    · obtain rfl : k = C := by omega
      have HEE := Lib.hid (show e = E by have h1 := HE.out; rw [Nat.sub_self] at h1; exact h1)
      subst hpv
      go_wp2_with fail
      exact bodyPost_ret (v := .tuple #[.slice pa n pc, fv]) (by simp [results, Tryz.results79, go_sem]) rfl ⟨_, _, xs, ps, rfl, by rw [← HEE.out]; exact S.out, BB.out, M.out.K⟩

end Go.Proofs.YtlepgkkpopjgoaaGreat
